/-
  Walk of the reader's list, for the two items that it is called with: what an item owes stands in ItemOk.
  Walk of the closure that reads an element of an array.
  Walk of the closure that reads an element of an array.
-/
import Derived.Test.YtmdaoepcjfbglaaGreatDoorPart07
import Derived.Test.YtmdaoepcjfbglaaGreatDoorPart04
import Derived.Deep.RegionHeld3
import Derived.Deep.AppendLies
import Derived.Deep.DrawnRows
import Derived.Deep.RegionLaw
namespace Go.Proofs.YtmdaoepcjfbglaaGreatDoor
open Go.RowKit

theorem RD.uniq {w : World} {R : Nat} {t t' : ByteArray} {l l' : Sp.By} {tw tw' : Bool} {dp fr dp' fr' : Int} (h : RD w R t l tw dp fr) (h' : RD w R t' l' tw' dp' fr') : t = t' ∧ l = l' ∧ tw = tw' ∧ dp = dp' ∧ fr = fr' := by
  obtain ⟨p, a, h⟩ := h
  obtain ⟨p', a', h'⟩ := h'
  have e := (show w.heap[R]? = _ from h).symm.trans (show w.heap[R]? = _ from h')
  simp at e
  obtain ⟨e1, e2, e3, e4, e5⟩ := e
  subst e1
  have : p = p' := by omega
  subst this
  exact ⟨rfl, a.eq.symm.trans a'.eq, e3, e4, e5⟩

structure ItemOk {σ : Type} (g : FuncId) (caps : Array Value) (R : Nat) (t : ByteArray) (N : Nat) (item : Sp.By → σ → Option (Sp.By × σ)) (I : World → Sp.By → σ → Prop) (J : World → Prop) : Prop where
  rd : ∀ w l s, I w l s → ∃ tw dp fr, RD w R t l tw dp fr
  move : ∀ w w' l l' s tw dp fr, I w l s → RD w R t l tw dp fr → RD w' R t l' tw dp fr → KeptX R w w' → l'.length ≤ l.length → I w' l' s
  out : ∀ w l s, I w l s → J w
  len : ∀ l s l' s', item l s = some (l', s') → l'.length < l.length
  call : ∀ w l s, I w l s → l.length < N → Calls Tryz.prog g caps w fun e w' =>
    (∃ l' s', item l s = some (l', s') ∧ e = .returned (.bool true) ∧ I w' l' s') ∨ (item l s = none ∧ e = .returned (.bool false) ∧ J w')

def listEnd {σ : Type} (o : Option (Sp.By × σ)) (e : Ending) (w' : World) (I : World → Sp.By → σ → Prop) (J : World → Prop) : Prop :=
  (∃ l' s', o = some (l', s') ∧ e = .returned (.bool true) ∧ I w' l' s') ∨ (o = none ∧ e = .returned (.bool false) ∧ J w')

set_option maxHeartbeats 4000000 in
theorem list_arr {σ : Type} (p0 p1 p2 : Value) (op cl : UInt8) (opn cln : Int) (hopn : opn = op.toNat) (hcln : cln = cl.toNat) (R : Nat) (t : ByteArray) (N : Nat) (item : Sp.By → σ → Option (Sp.By × σ)) (I : World → Sp.By → σ → Prop) (J : World → Prop)
    (K : ItemOk 192 #[p0, p1, p2] R t N item I J) (w : World) (l : Sp.By) (s : σ) (hI : I w l s) (hN : l.length ≤ N) :
    Calls Tryz.prog 189 #[.pointer (some ⟨R, 0, none⟩), .int .u8 opn, .int .u8 cln, .func (.func 192) #[] #[p0, p1, p2]] w fun e w' => listEnd (Sp.lstAll op cl item l s) e w' I J := by
  obtain ⟨tw, dp, fr, hr⟩ := K.rd _ _ _ hI
  have HI := hide hI
  have HO := hide hopn
  have HC := hide hcln
  clear hI hopn hcln
  by_cases k1 : Sp.tk l op = true
  · have K1 := hide k1
    have hl1 := tk_cons k1
    clear k1
    go_enter Tryz.func189, Tryz.ntmps189
    go_wp2_with (fail)
    refine (take_yes op opn (unhide HO) hr (unhide K1)).mono ?_
    rintro e w1 ⟨rfl, hr1, hk1⟩
    go_wp2_with (fail)
    refine (blanks_any hr1).mono ?_
    rintro e w2 ⟨rfl, hr2, hk2⟩
    have hsk := Sp.skB_len l.tail
    have I2 := hide (K.move _ _ _ _ _ _ _ _ (unhide HI) hr hr2 (hk1.trans hk2) (by first | exact Nat.le_refl _ | omega | (simp only [List.length_tail]; omega)))
    by_cases k2 : Sp.tk (Sp.skB l.tail) cl = true
    · have K2 := hide k2
      clear k2
      go_wp2_with (fail)
      refine (take_yes cl cln (unhide HC) hr2 (unhide K2)).mono ?_
      rintro e w3 ⟨rfl, hr3, hk3⟩
      go_wp2_with (fail)
      go_ret
      refine Or.inl ⟨_, s, ?_, rfl, K.move _ _ _ _ _ _ _ _ (unhide I2) hr2 hr3 hk3 (by first | exact Nat.le_refl _ | omega | (simp only [List.length_tail]; omega))⟩
      unfold Sp.lstAll
      rw [unhide K1, unhide K2]; rfl
    · have K2 := hide (tk_false k2)
      clear k2
      go_wp2_with (fail)
      refine (takeN cl cln (unhide HC) hr2 (unhide K2)).mono ?_
      rintro e w3 ⟨rfl, hr3, hk3⟩
      have I3 := hide (K.move _ _ _ _ _ _ _ _ (unhide I2) hr2 hr3 hk3 (by first | exact Nat.le_refl _ | omega | (simp only [List.length_tail]; omega)))
      have hE : Hid (Sp.lstAll op cl item l s = Sp.lst cl item ((Sp.skB l.tail).length + 1) (Sp.skB l.tail) s) := by
        unfold Hid Sp.lstAll
        rw [unhide K1, unhide K2]; rfl
      have hb : (Sp.skB l.tail).length < N := by omega
      generalize Sp.skB l.tail = l2 at *
      clear hr hr1 hr2 hk1 hk2 hk3 K1 K2 HI I2 hl1 hsk hN
      go_wp2_with (fail)
      go_loopw [18] (fun _ wr => ∃ (n : Nat) (l' : Sp.By) (s' : σ), I wr l' s' ∧ l'.length < n ∧ l'.length < N ∧ Sp.lst cl item (l2.length + 1) l2 s = Sp.lst cl item n l' s') (fun _ wr => left wr R)
      case atStart => exact ⟨_, l2, s, unhide I3, Nat.lt_succ_self _, hb, rfl⟩
      case round =>
        obtain ⟨n, l', s', hi, hn, hlN, he⟩ := hrel
        obtain ⟨m, rfl⟩ : ∃ m, n = m + 1 := ⟨n - 1, by omega⟩
        obtain ⟨tw, dp, fr, hr⟩ := K.rd _ _ _ hi
        have HI := hide hi
        have HE := hide he
        have HL := hide hr.left
        have hsk := Sp.skB_len l'
        clear hi he I3 hr3
        go_wp2_with (fail)
        refine (blanks_any hr).mono ?_
        rintro e w4 ⟨rfl, hr4, hk4⟩
        have I4 := hide (K.move _ _ _ _ _ _ _ _ (unhide HI) hr hr4 hk4 (by first | exact Nat.le_refl _ | omega | (simp only [List.length_tail]; omega)))
        go_wp2_with (fail)
        refine (K.call _ _ _ (unhide I4) (by omega)).mono ?_
        rintro e w5 hc
        rcases hc with ⟨l5, s5, hit, rfl, hI5⟩ | ⟨hit, rfl, hJ⟩
        · obtain ⟨tw5, dp5, fr5, hr5⟩ := K.rd _ _ _ hI5
          have I5 := hide hI5
          have HIT := hide hit
          have hl5 := K.len _ _ _ _ hit
          have hsk5 := Sp.skB_len l5
          clear hI5 hit
          go_wp2_with (fail)
          refine (blanks_any hr5).mono ?_
          rintro e w6 ⟨rfl, hr6, hk6⟩
          have I6 := hide (K.move _ _ _ _ _ _ _ _ (unhide I5) hr5 hr6 hk6 (by first | exact Nat.le_refl _ | omega | (simp only [List.length_tail]; omega)))
          by_cases k3 : Sp.tk (Sp.skB l5) cl = true
          · have K3 := hide k3
            clear k3
            go_wp2_with (fail)
            refine (take_yes cl cln (unhide HC) hr6 (unhide K3)).mono ?_
            rintro e w7 ⟨rfl, hr7, hk7⟩
            go_wp2_with (fail)
            go_ret
            refine Or.inl ⟨_, s5, ?_, rfl, K.move _ _ _ _ _ _ _ _ (unhide I6) hr6 hr7 hk7 (by first | exact Nat.le_refl _ | omega | (simp only [List.length_tail]; omega))⟩
            rw [unhide hE, unhide HE, Sp.lst, unhide HIT]
            simp only
            rw [unhide K3]; rfl
          · have K3 := hide (tk_false k3)
            clear k3
            go_wp2_with (fail)
            refine (takeN cl cln (unhide HC) hr6 (unhide K3)).mono ?_
            rintro e w7 ⟨rfl, hr7, hk7⟩
            have I7 := hide (K.move _ _ _ _ _ _ _ _ (unhide I6) hr6 hr7 hk7 (by first | exact Nat.le_refl _ | omega | (simp only [List.length_tail]; omega)))
            by_cases k4 : Sp.tk (Sp.skB l5) 44 = true
            · have K4 := hide k4
              have hl4 := tk_cons k4
              clear k4
              go_wp2_with (fail)
              refine (take_yes 44 _ rfl hr7 (unhide K4)).mono ?_
              rintro e w8 ⟨rfl, hr8, hk8⟩
              have I8 := hide (K.move _ _ _ _ _ _ _ _ (unhide I7) hr7 hr8 hk8 (by first | exact Nat.le_refl _ | omega | (simp only [List.length_tail]; omega)))
              go_wp2_with (fail)
              go_roundw
              case rel =>
                refine ⟨m, _, s5, unhide I8, by omega, by omega, ?_⟩
                rw [unhide HE, Sp.lst, unhide HIT]
                simp only
                rw [unhide K3, unhide K4]; rfl
              case measure => rw [hr8.left, unhide HL]; omega
            · have K4 := hide (tk_false k4)
              clear k4
              go_wp2_with (fail)
              refine (takeN 44 _ rfl hr7 (unhide K4)).mono ?_
              rintro e w8 ⟨rfl, hr8, hk8⟩
              go_wp2_with (fail)
              go_ret
              refine Or.inr ⟨?_, rfl, K.out _ _ _ (K.move _ _ _ _ _ _ _ _ (unhide I7) hr7 hr8 hk8 (by first | exact Nat.le_refl _ | omega | (simp only [List.length_tail]; omega)))⟩
              rw [unhide hE, unhide HE, Sp.lst, unhide HIT]
              simp only
              rw [unhide K3, unhide K4]; rfl
        · have HIT := hide hit
          clear hit
          go_wp2_with (fail)
          go_ret
          refine Or.inr ⟨?_, rfl, hJ⟩
          rw [unhide hE, unhide HE, Sp.lst, unhide HIT]
  · have K1 := hide (tk_false k1)
    clear k1
    go_enter Tryz.func189, Tryz.ntmps189
    go_wp2_with (fail)
    refine (takeN op opn (unhide HO) hr (unhide K1)).mono ?_
    rintro e w1 ⟨rfl, hr1, hk1⟩
    go_wp2_with (fail)
    go_ret
    refine Or.inr ⟨?_, rfl, K.out _ _ _ (K.move _ _ _ _ _ _ _ _ (unhide HI) hr hr1 hk1 (by first | exact Nat.le_refl _ | omega | (simp only [List.length_tail]; omega)))⟩
    unfold Sp.lstAll
    rw [unhide K1]; rfl

set_option maxHeartbeats 4000000 in
theorem list_obj {σ : Type} (p0 p1 p2 : Value) (op cl : UInt8) (opn cln : Int) (hopn : opn = op.toNat) (hcln : cln = cl.toNat) (R : Nat) (t : ByteArray) (N : Nat) (item : Sp.By → σ → Option (Sp.By × σ)) (I : World → Sp.By → σ → Prop) (J : World → Prop)
    (K : ItemOk 190 #[p0, p1, p2] R t N item I J) (w : World) (l : Sp.By) (s : σ) (hI : I w l s) (hN : l.length ≤ N) :
    Calls Tryz.prog 189 #[.pointer (some ⟨R, 0, none⟩), .int .u8 opn, .int .u8 cln, .func (.func 190) #[] #[p0, p1, p2]] w fun e w' => listEnd (Sp.lstAll op cl item l s) e w' I J := by
  obtain ⟨tw, dp, fr, hr⟩ := K.rd _ _ _ hI
  have HI := hide hI
  have HO := hide hopn
  have HC := hide hcln
  clear hI hopn hcln
  by_cases k1 : Sp.tk l op = true
  · have K1 := hide k1
    have hl1 := tk_cons k1
    clear k1
    go_enter Tryz.func189, Tryz.ntmps189
    go_wp2_with (fail)
    refine (take_yes op opn (unhide HO) hr (unhide K1)).mono ?_
    rintro e w1 ⟨rfl, hr1, hk1⟩
    go_wp2_with (fail)
    refine (blanks_any hr1).mono ?_
    rintro e w2 ⟨rfl, hr2, hk2⟩
    have hsk := Sp.skB_len l.tail
    have I2 := hide (K.move _ _ _ _ _ _ _ _ (unhide HI) hr hr2 (hk1.trans hk2) (by first | exact Nat.le_refl _ | omega | (simp only [List.length_tail]; omega)))
    by_cases k2 : Sp.tk (Sp.skB l.tail) cl = true
    · have K2 := hide k2
      clear k2
      go_wp2_with (fail)
      refine (take_yes cl cln (unhide HC) hr2 (unhide K2)).mono ?_
      rintro e w3 ⟨rfl, hr3, hk3⟩
      go_wp2_with (fail)
      go_ret
      refine Or.inl ⟨_, s, ?_, rfl, K.move _ _ _ _ _ _ _ _ (unhide I2) hr2 hr3 hk3 (by first | exact Nat.le_refl _ | omega | (simp only [List.length_tail]; omega))⟩
      unfold Sp.lstAll
      rw [unhide K1, unhide K2]; rfl
    · have K2 := hide (tk_false k2)
      clear k2
      go_wp2_with (fail)
      refine (takeN cl cln (unhide HC) hr2 (unhide K2)).mono ?_
      rintro e w3 ⟨rfl, hr3, hk3⟩
      have I3 := hide (K.move _ _ _ _ _ _ _ _ (unhide I2) hr2 hr3 hk3 (by first | exact Nat.le_refl _ | omega | (simp only [List.length_tail]; omega)))
      have hE : Hid (Sp.lstAll op cl item l s = Sp.lst cl item ((Sp.skB l.tail).length + 1) (Sp.skB l.tail) s) := by
        unfold Hid Sp.lstAll
        rw [unhide K1, unhide K2]; rfl
      have hb : (Sp.skB l.tail).length < N := by omega
      generalize Sp.skB l.tail = l2 at *
      clear hr hr1 hr2 hk1 hk2 hk3 K1 K2 HI I2 hl1 hsk hN
      go_wp2_with (fail)
      go_loopw [18] (fun _ wr => ∃ (n : Nat) (l' : Sp.By) (s' : σ), I wr l' s' ∧ l'.length < n ∧ l'.length < N ∧ Sp.lst cl item (l2.length + 1) l2 s = Sp.lst cl item n l' s') (fun _ wr => left wr R)
      case atStart => exact ⟨_, l2, s, unhide I3, Nat.lt_succ_self _, hb, rfl⟩
      case round =>
        obtain ⟨n, l', s', hi, hn, hlN, he⟩ := hrel
        obtain ⟨m, rfl⟩ : ∃ m, n = m + 1 := ⟨n - 1, by omega⟩
        obtain ⟨tw, dp, fr, hr⟩ := K.rd _ _ _ hi
        have HI := hide hi
        have HE := hide he
        have HL := hide hr.left
        have hsk := Sp.skB_len l'
        clear hi he I3 hr3
        go_wp2_with (fail)
        refine (blanks_any hr).mono ?_
        rintro e w4 ⟨rfl, hr4, hk4⟩
        have I4 := hide (K.move _ _ _ _ _ _ _ _ (unhide HI) hr hr4 hk4 (by first | exact Nat.le_refl _ | omega | (simp only [List.length_tail]; omega)))
        go_wp2_with (fail)
        refine (K.call _ _ _ (unhide I4) (by omega)).mono ?_
        rintro e w5 hc
        rcases hc with ⟨l5, s5, hit, rfl, hI5⟩ | ⟨hit, rfl, hJ⟩
        · obtain ⟨tw5, dp5, fr5, hr5⟩ := K.rd _ _ _ hI5
          have I5 := hide hI5
          have HIT := hide hit
          have hl5 := K.len _ _ _ _ hit
          have hsk5 := Sp.skB_len l5
          clear hI5 hit
          go_wp2_with (fail)
          refine (blanks_any hr5).mono ?_
          rintro e w6 ⟨rfl, hr6, hk6⟩
          have I6 := hide (K.move _ _ _ _ _ _ _ _ (unhide I5) hr5 hr6 hk6 (by first | exact Nat.le_refl _ | omega | (simp only [List.length_tail]; omega)))
          by_cases k3 : Sp.tk (Sp.skB l5) cl = true
          · have K3 := hide k3
            clear k3
            go_wp2_with (fail)
            refine (take_yes cl cln (unhide HC) hr6 (unhide K3)).mono ?_
            rintro e w7 ⟨rfl, hr7, hk7⟩
            go_wp2_with (fail)
            go_ret
            refine Or.inl ⟨_, s5, ?_, rfl, K.move _ _ _ _ _ _ _ _ (unhide I6) hr6 hr7 hk7 (by first | exact Nat.le_refl _ | omega | (simp only [List.length_tail]; omega))⟩
            rw [unhide hE, unhide HE, Sp.lst, unhide HIT]
            simp only
            rw [unhide K3]; rfl
          · have K3 := hide (tk_false k3)
            clear k3
            go_wp2_with (fail)
            refine (takeN cl cln (unhide HC) hr6 (unhide K3)).mono ?_
            rintro e w7 ⟨rfl, hr7, hk7⟩
            have I7 := hide (K.move _ _ _ _ _ _ _ _ (unhide I6) hr6 hr7 hk7 (by first | exact Nat.le_refl _ | omega | (simp only [List.length_tail]; omega)))
            by_cases k4 : Sp.tk (Sp.skB l5) 44 = true
            · have K4 := hide k4
              have hl4 := tk_cons k4
              clear k4
              go_wp2_with (fail)
              refine (take_yes 44 _ rfl hr7 (unhide K4)).mono ?_
              rintro e w8 ⟨rfl, hr8, hk8⟩
              have I8 := hide (K.move _ _ _ _ _ _ _ _ (unhide I7) hr7 hr8 hk8 (by first | exact Nat.le_refl _ | omega | (simp only [List.length_tail]; omega)))
              go_wp2_with (fail)
              go_roundw
              case rel =>
                refine ⟨m, _, s5, unhide I8, by omega, by omega, ?_⟩
                rw [unhide HE, Sp.lst, unhide HIT]
                simp only
                rw [unhide K3, unhide K4]; rfl
              case measure => rw [hr8.left, unhide HL]; omega
            · have K4 := hide (tk_false k4)
              clear k4
              go_wp2_with (fail)
              refine (takeN 44 _ rfl hr7 (unhide K4)).mono ?_
              rintro e w8 ⟨rfl, hr8, hk8⟩
              go_wp2_with (fail)
              go_ret
              refine Or.inr ⟨?_, rfl, K.out _ _ _ (K.move _ _ _ _ _ _ _ _ (unhide I7) hr7 hr8 hk8 (by first | exact Nat.le_refl _ | omega | (simp only [List.length_tail]; omega)))⟩
              rw [unhide hE, unhide HE, Sp.lst, unhide HIT]
              simp only
              rw [unhide K3, unhide K4]; rfl
        · have HIT := hide hit
          clear hit
          go_wp2_with (fail)
          go_ret
          refine Or.inr ⟨?_, rfl, hJ⟩
          rw [unhide hE, unhide HE, Sp.lst, unhide HIT]
  · have K1 := hide (tk_false k1)
    clear k1
    go_enter Tryz.func189, Tryz.ntmps189
    go_wp2_with (fail)
    refine (takeN op opn (unhide HO) hr (unhide K1)).mono ?_
    rintro e w1 ⟨rfl, hr1, hk1⟩
    go_wp2_with (fail)
    go_ret
    refine Or.inr ⟨?_, rfl, K.out _ _ _ (K.move _ _ _ _ _ _ _ _ (unhide HI) hr hr1 hk1 (by first | exact Nat.le_refl _ | omega | (simp only [List.length_tail]; omega)))⟩
    unfold Sp.lstAll
    rw [unhide K1]; rfl

end Go.Proofs.YtmdaoepcjfbglaaGreatDoor

namespace Go.Proofs.YtmdaoepcjfbglaaGreatDoor
open Go.RowKit

def valEnd (f : Nat) (lv : Int) (l : Sp.By) (fl : Sp.Fl) (e : Ending) (w w' : World) (R : Nat) (t : ByteArray) : Prop :=
  (∃ d r fl' p, Sp.val f lv l fl = some (d, r, fl') ∧ e = .returned (.tuple #[.pointer p, .bool true]) ∧ RD w' R t r fl'.1 fl'.2.1 fl'.2.2 ∧ Rep f (fun k => w.heap.size ≤ k) w' (.pointer p) d) ∨
    (Sp.val f lv l fl = none ∧ ∃ p, e = .returned (.tuple #[.pointer p, .bool false]) ∧ ∃ r tw dp fr, RD w' R t r tw dp fr)

/-- The reader's value, f levels deep. -/
def ValOk (f : Nat) : Prop := ∀ (R : Nat) (t : ByteArray) (lv : Int) (l : Sp.By) (tw : Bool) (dp fr : Int) (w : World), RD w R t l tw dp fr → Laid w → NG ≤ R → l.length < f → 0 ≤ lv → lv + f ≤ 5000 →
  Calls Tryz.prog 122 #[.pointer (some ⟨R, 0, none⟩), .int .i64 lv] w fun e w' => KeptX R w w' ∧ valEnd f lv l (tw, dp, fr) e w w' R t

/-- Where the boxes of an array's or an object's reading lie. -/
structure Boxes (w0 : World) (R p0 p1 p2 vb N1 : Nat) : Prop where
  r : R < w0.heap.size
  ng : NG ≤ R
  a0 : w0.heap.size ≤ p0 ∧ p0 < N1
  a1 : w0.heap.size ≤ p1 ∧ p1 < N1
  a2 : w0.heap.size ≤ p2 ∧ p2 < N1
  av : w0.heap.size ≤ vb ∧ vb < N1
  d0 : p0 ≠ vb
  d1 : p1 ≠ vb
  d2 : p2 ≠ vb

structure ArrI (f R : Nat) (t : ByteArray) (lv : Int) (w0 : World) (p0 p1 p2 vb N1 : Nat) (w : World) (l : Sp.By) (s : List Sp.V × Sp.Fl) : Prop where
  rd : RD w R t l s.2.1 s.2.2.1 s.2.2.2
  kept : KeptX R w0 w
  laid : Laid w
  b0 : w.heap[p0]? = some (.cells #[.pointer (some ⟨R, 0, none⟩)] 146 (0, 0))
  b1 : w.heap[p1]? = some (.cells #[.int .i64 lv] 3 (0, 0))
  b2 : w.heap[p2]? = some (.cells #[.pointer (some ⟨vb, 0, none⟩)] 76 (0, 0))
  sz : N1 ≤ w.heap.size
  len : s.1.length + l.length ≤ 2001
  el : ∃ sl ps, VB w vb 5 n0 [] sl (.map none) ∧ w.ownsRow N1 76 1 sl ps.length ps ∧ Al (Rep f (fun k => N1 ≤ k ∧ sl.ownBlock ≠ some k) w) ps s.1

def RdJ (R : Nat) (t : ByteArray) (w0 : World) (p2 vb : Nat) (w : World) : Prop := KeptX R w0 w ∧ (∃ l tw dp fr, RD w R t l tw dp fr) ∧ w.heap[p2]? = some (.cells #[.pointer (some ⟨vb, 0, none⟩)] 76 (0, 0))

theorem b_ptr : (Tryz.prog.info? 76).map (fun i => (i.zero, i.size, i.bytes)) = some (some (.pointer none), 1, 8) := by kernel_rfl

/-- What the append to the elements leaves. -/
theorem arr_fin {f R : Nat} {t : ByteArray} {lv : Int} {w0 : World} {p0 p1 p2 vb N1 : Nat} (B : Boxes w0 R p0 p1 p2 vb N1) {w w2 w3 : World} {l r : Sp.By} {s : List Sp.V × Sp.Fl} (hI : ArrI f R t lv w0 p0 p1 p2 vb N1 w l s) (hk2 : KeptX R w w2)
    {tw : Bool} {dp fr : Int} (hr2 : RD w2 R t r tw dp fr) {sl : Value} {ps : List Value} (hvb : VB w vb 5 n0 [] sl (.map none)) (hown : w.ownsRow N1 76 1 sl ps.length ps) (hal : Al (Rep f (fun k => N1 ≤ k ∧ sl.ownBlock ≠ some k) w) ps s.1)
    {p : Option Addr} {o : Obj} {g cap : Nat} (hown3 : w3.ownsRow N1 76 1 (.slice (some ⟨g, 0, none⟩) (ps.length + 1) cap) (ps.length + 1) (ps ++ [.pointer p])) (hgrow : (w2.alloc o).grownBy w3 sl.ownBlock) (hat : sl.ownBlock = some g ∨ g = w2.heap.size + 1) :
    KeptX R w0 (w3.setCell ⟨vb, 5, none⟩ (.slice (some ⟨g, 0, none⟩) (ps.length + 1) cap)) ∧ RD (w3.setCell ⟨vb, 5, none⟩ (.slice (some ⟨g, 0, none⟩) (ps.length + 1) cap)) R t r tw dp fr ∧
    (w3.setCell ⟨vb, 5, none⟩ (.slice (some ⟨g, 0, none⟩) (ps.length + 1) cap)).heap[p2]? = some (.cells #[.pointer (some ⟨vb, 0, none⟩)] 76 (0, 0)) ∧
    ∀ (d : Sp.V) (fl : Sp.Fl), fl = (tw, dp, fr) → Rep f (fun k => w.heap.size ≤ k) w2 (.pointer p) d → r.length < l.length → ArrI f R t lv w0 p0 p1 p2 vb N1 (w3.setCell ⟨vb, 5, none⟩ (.slice (some ⟨g, 0, none⟩) (ps.length + 1) cap)) r (s.1 ++ [d], fl) := by
  have bR := B.r
  have a0 := B.a0
  have a1 := B.a1
  have a2 := B.a2
  have av := B.av
  have d0 := B.d0
  have d1 := B.d1
  have d2 := B.d2
  have hsz := hI.sz
  have hs2 := hk2.size
  have gs := hgrow.size
  have hsa : (w2.alloc o).heap.size = w2.heap.size + 1 := by simp
  -- blocks of w2 that are no elements' row
  have k3 : ∀ k, k < w2.heap.size → some k ≠ sl.ownBlock → w3.heap[k]? = w2.heap[k]? := fun k h1 h2 => (hgrow.block k (by omega) h2).trans (Below.heap_alloc w2 o k h1)
  have nlow : ∀ k, k < N1 → some k ≠ sl.ownBlock := fun k hk h => by have := (owns_lt hown k h.symm).2; omega
  have k4 : ∀ k, k < w2.heap.size → some k ≠ sl.ownBlock → k ≠ vb → (w3.setCell ⟨vb, 5, none⟩ (.slice (some ⟨g, 0, none⟩) (ps.length + 1) cap)).heap[k]? = w2.heap[k]? := fun k h1 h2 h3 => (Below.heap_setCell _ _ _ _ h3).trans (k3 k h1 h2)
  have hg : N1 ≤ g := (owns_lt hown3 g rfl).2
  have kx : KeptX R w0 (w3.setCell ⟨vb, 5, none⟩ (.slice (some ⟨g, 0, none⟩) (ps.length + 1) cap)) := by
    have hk := hI.kept.trans hk2
    refine ⟨hgrow.os.trans hk.os, hgrow.tape.trans hk.tape, hgrow.output.trans hk.output, ?_, ?_⟩
    · have := hk.size; simp [World.setCell]; omega
    · intro k h1 h2
      exact (k4 k (by have := hk.size; omega) (nlow k (by omega)) (by omega)).trans (hk.block k h1 h2)
  have hrd : RD (w3.setCell ⟨vb, 5, none⟩ (.slice (some ⟨g, 0, none⟩) (ps.length + 1) cap)) R t r tw dp fr := by
    obtain ⟨q, ha, hq⟩ := hr2
    exact ⟨q, ha, (k4 R (RP.lt hq) (nlow R (by omega)) (by omega)).trans hq⟩
  have box : ∀ (k : Nat) (ob : Obj), w0.heap.size ≤ k → k < N1 → k ≠ vb → w.heap[k]? = some ob → (w3.setCell ⟨vb, 5, none⟩ (.slice (some ⟨g, 0, none⟩) (ps.length + 1) cap)).heap[k]? = some ob := fun k ob h1 h2 h3 h4 =>
    (k4 k (by omega) (nlow k h2) h3).trans ((hk2.block k (by omega) (by omega)).trans h4)
  refine ⟨kx, hrd, box _ _ a2.1 a2.2 d2 hI.b2, ?_⟩
  rintro d fl rfl hrep hlen
  refine ⟨hrd, kx, hI.laid.below ⟨hgrow.os.trans hk2.os, hgrow.tape.trans hk2.tape, hgrow.output.trans hk2.output, by simp [World.setCell]; omega, fun k hk => (k4 k (by have := B.ng; have := hI.laid.ng; omega) (nlow k (by have := B.ng; omega)) (by have := B.ng; omega)).trans (hk2.block k (by have := hI.laid.ng; omega) (by have := B.ng; omega))⟩, box _ _ a0.1 a0.2 d0 hI.b0, box _ _ a1.1 a1.2 d1 hI.b1, box _ _ a2.1 a2.2 d2 hI.b2, by simp [World.setCell]; omega, by have := hI.len; simp only [List.length_append, List.length_cons, List.length_nil]; omega, ?_⟩
  refine ⟨.slice (some ⟨g, 0, none⟩) (ps.length + 1) cap, ps ++ [.pointer p], ?_, ?_, ?_⟩
  · have h5 := (k3 vb (by omega) (nlow vb (by omega))).trans (hvb.kept (hk2.block vb hvb.lt (by omega)))
    simp only [VB, World.setCell, Array.getElem?_modify]
    rw [if_pos trivial, h5]; rfl
  · have : (ps ++ [Value.pointer p]).length = ps.length + 1 := by simp
    rw [this]
    exact owns_kept hown3 (fun g' hg' => by
      have : g' = g := by simpa [Value.ownBlock] using hg'.symm
      subst this
      exact Below.heap_setCell _ _ _ _ (show g' ≠ vb by omega))
  · refine Al.snoc (Rep.move ?_ hrep) (hal.mono fun _ _ h => Rep.move ?_ h)
    · intro k h1 h2
      have h3 : some k ≠ sl.ownBlock := fun h => by have := (owns_lt hown k h.symm).1; omega
      refine ⟨k4 k h2 h3 (by omega), by omega, ?_⟩
      intro h
      have hgk : g = k := by simpa [Value.ownBlock] using h
      rcases hat with h4 | h4
      · exact h3 (by rw [h4, hgk])
      · omega
    · intro k h1 h2
      have h3 : some k ≠ sl.ownBlock := fun h => h1.2 h.symm
      refine ⟨(k4 k (by omega) h3 (by omega)).trans (hk2.block k h2 (by omega)), h1.1, ?_⟩
      intro h
      have hgk : g = k := by simpa [Value.ownBlock] using h
      rcases hat with h4 | h4
      · exact h3 (by rw [h4, hgk])
      · omega

end Go.Proofs.YtmdaoepcjfbglaaGreatDoor

namespace Go.Proofs.YtmdaoepcjfbglaaGreatDoor
open Go.RowKit

set_option maxRecDepth 100000 in
set_option maxHeartbeats 4000000 in
theorem arr_item {f R : Nat} {t : ByteArray} {lv : Int} {w0 : World} {p0 p1 p2 vb N1 : Nat} (B : Boxes w0 R p0 p1 p2 vb N1) (hV : ValOk f) (hlv : 0 ≤ lv) (w : World) (l : Sp.By) (s : List Sp.V × Sp.Fl) (hI : ArrI f R t lv w0 p0 p1 p2 vb N1 w l s) (hl : l.length < f) (hb : lv + f ≤ 4999) :
    Calls Tryz.prog 192 #[.pointer (some ⟨p0, 0, none⟩), .pointer (some ⟨p1, 0, none⟩), .pointer (some ⟨p2, 0, none⟩)] w fun e w' =>
    (∃ l' s', Sp.elem (Sp.val f (lv + 1)) l s = some (l', s') ∧ e = .returned (.bool true) ∧ ArrI f R t lv w0 p0 p1 p2 vb N1 w' l' s') ∨ (Sp.elem (Sp.val f (lv + 1)) l s = none ∧ e = .returned (.bool false) ∧ RdJ R t w0 p2 vb w') := by
  obtain ⟨i0, hi0, hz0, hz1, hz2⟩ := info_parts b_ptr
  have c0 : w.cell? ⟨p0, 0, none⟩ = some (.pointer (some ⟨R, 0, none⟩)) := by simp [World.cell?, hI.b0]
  have c1 : w.cell? ⟨p1, 0, none⟩ = some (.int .i64 lv) := by simp [World.cell?, hI.b1]
  have hlv2 : lv ≤ 4999 := by omega
  go_enter Tryz.func192, Tryz.ntmps192
  go_wp2_with (fail)
  refine (hV R t (lv + 1) l _ _ _ w hI.rd hI.laid B.ng hl (by omega) (by omega)).mono ?_
  rintro e w2 ⟨hk2, hc⟩
  clear c0 c1
  obtain ⟨sl, ps, hvb, hown, hal⟩ := hI.el
  have bR := B.r
  have a2 := B.a2
  have av := B.av
  have d2 := B.d2
  have hsz := hI.sz
  have hb2 : w2.heap[p2]? = some (.cells #[.pointer (some ⟨vb, 0, none⟩)] 76 (0, 0)) := (hk2.block p2 (by omega) (by omega)).trans hI.b2
  have hvb2 := hvb.kept (hk2.block vb hvb.lt (by omega))
  have hown2 := owns_kept hown (fun g hg => hk2.block g (owns_lt hown g hg).1 (by have := (owns_lt hown g hg).2; omega))
  have q2 : w2.cell? ⟨p2, 0, none⟩ = some (.pointer (some ⟨vb, 0, none⟩)) := by simp [World.cell?, hb2]
  have q5 : w2.cell? ⟨vb, 5, none⟩ = some sl := by simp [World.cell?, show w2.heap[vb]? = _ from hvb2]
  have z5 : w2.frozen? ⟨vb, 5, none⟩ = false := by simp [World.frozen?, show w2.heap[vb]? = _ from hvb2]
  have hs2 := hk2.size
  have hw2 := (Array.getElem?_eq_some_iff.1 hb2).1
  have hwv := hvb2.lt
  have n2 : some p2 ≠ sl.ownBlock := fun h => by have := (owns_lt hown _ h.symm).2; omega
  have nv : some vb ≠ sl.ownBlock := fun h => by have := (owns_lt hown _ h.symm).2; omega
  have q2' : ∀ o, (w2.alloc o).cell? ⟨p2, 0, none⟩ = some (.pointer (some ⟨vb, 0, none⟩)) := fun o => by rw [World.cell?_of_block (w := w2) (Below.heap_alloc w2 o p2 hw2)]; exact q2
  have q5' : ∀ o, (w2.alloc o).cell? ⟨vb, 5, none⟩ = some sl := fun o => by rw [World.cell?_of_block (w := w2) (Below.heap_alloc w2 o vb hwv)]; exact q5
  have z5' : ∀ o, (w2.alloc o).frozen? ⟨vb, 5, none⟩ = false := fun o => by rw [World.frozen?_of_block (w := w2) (Below.heap_alloc w2 o vb hwv)]; exact z5
  have hpl : ps.length ≤ 2001 := by have := hal.length; have := hI.len; omega
  rcases hc with ⟨d, r, fl', p, hs, rfl, hr2, hrep⟩ | ⟨hs, p, rfl, r, tw, dp, fr, hr2⟩
  · have HS := hide hs
    clear hs
    go_wp2_with (fail)
    go_region_law ((refine step_append_lies _ (by rfl) _ _ _ (by rfl) N1 76 i0 _ 1 8 Tryz.underlying102 hi0 hz0 hz1 hz2 rfl (by decide) sl ps.length ps (by rfl) ((hown2.alloc _).drew) ⟨w2.heap.size, 0, none⟩ 1 1 [.pointer p] (by rfl) (by rfl) (World.news_of_block (cs := #[.pointer p]) (t := 76) (fr := (0, 0)) (heap_alloc_new w2 _)) (by simp [Value.oneCell']) (by decide) (by unfold maxLen; omega) (by omega) (by simp; omega) (w2.heap.size + 1) (by simp) ?_; intro g cap w3 hown3 hgrow hat hlt; have zz : w3.frozen? ⟨vb, 5, none⟩ = false := (hgrow.frozen_far ⟨vb, 5, none⟩ (by simp; omega) nv).trans (z5' _); have yy : w3.cell? ⟨vb, 5, none⟩ = some sl := (hgrow.cell_far ⟨vb, 5, none⟩ (by simp; omega) nv).trans (q5' _); have xx : w3.cell? ⟨p2, 0, none⟩ = some (.pointer (some ⟨vb, 0, none⟩)) := (hgrow.cell_far ⟨p2, 0, none⟩ (by simp; omega) n2).trans (q2' _)))
    all_goals (
      have hf := arr_fin B hI hk2 hr2 hvb hown hal hown3 (World.grownBy.mk hgrow.os hgrow.tape hgrow.output hgrow.size hgrow.block) hat
      have hlen := Sp.val_len _ _ _ _ _ _ _ (unhide HS)
      go_wp2_with (fail)
      go_ret
      refine Or.inl ⟨r, (s.1 ++ [d], fl'), ?_, rfl, hf.2.2.2 d fl' rfl hrep hlen⟩
      unfold Sp.elem
      have := unhide HS
      rw [show (s.2.1, s.2.2.1, s.2.2.2) = s.2 from rfl] at this
      rw [this])
  · have HS := hide hs
    clear hs
    go_wp2_with (fail)
    go_region_law ((refine step_append_lies _ (by rfl) _ _ _ (by rfl) N1 76 i0 _ 1 8 Tryz.underlying102 hi0 hz0 hz1 hz2 rfl (by decide) sl ps.length ps (by rfl) ((hown2.alloc _).drew) ⟨w2.heap.size, 0, none⟩ 1 1 [.pointer p] (by rfl) (by rfl) (World.news_of_block (cs := #[.pointer p]) (t := 76) (fr := (0, 0)) (heap_alloc_new w2 _)) (by simp [Value.oneCell']) (by decide) (by unfold maxLen; omega) (by omega) (by simp; omega) (w2.heap.size + 1) (by simp) ?_; intro g cap w3 hown3 hgrow hat hlt; have zz : w3.frozen? ⟨vb, 5, none⟩ = false := (hgrow.frozen_far ⟨vb, 5, none⟩ (by simp; omega) nv).trans (z5' _); have yy : w3.cell? ⟨vb, 5, none⟩ = some sl := (hgrow.cell_far ⟨vb, 5, none⟩ (by simp; omega) nv).trans (q5' _); have xx : w3.cell? ⟨p2, 0, none⟩ = some (.pointer (some ⟨vb, 0, none⟩)) := (hgrow.cell_far ⟨p2, 0, none⟩ (by simp; omega) n2).trans (q2' _)))
    all_goals (
      have hf := arr_fin B hI hk2 hr2 hvb hown hal hown3 (World.grownBy.mk hgrow.os hgrow.tape hgrow.output hgrow.size hgrow.block) hat
      go_wp2_with (fail)
      go_ret
      refine Or.inr ⟨?_, rfl, hf.1, ⟨r, tw, dp, fr, hf.2.1⟩, hf.2.2.1⟩
      unfold Sp.elem
      have := unhide HS
      rw [show (s.2.1, s.2.2.1, s.2.2.2) = s.2 from rfl] at this
      rw [this])

end Go.Proofs.YtmdaoepcjfbglaaGreatDoor
