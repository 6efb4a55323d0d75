/-
  Walk of the reader's word.
-/
import Derived.Test.YtdpomdelmdofmaaGreatDoorPart10
import Derived.Test.YtdpomdelmdofmaaGreatDoorPart05
import Derived.Test.YtdpomdelmdofmaaGreatDoorPart04
import Derived.Laws.Rows
import Derived.Test.YtdpomdelmdofmaaGreatDoorPart09
namespace Go.Proofs.YtdpomdelmdofmaaGreatDoor
open Go.RowKit
def wordL (j : Nat) : Sp.By := Sp.words.getD j []
theorem word_i0 (w : World) : (Instr.index 165 (.agg wordCells) (.int .i64 0)).run Tryz.prog w = .ok (.string ⟨#[110, 117, 108, 108]⟩) w := by kernel_rfl
theorem word_i1 (w : World) : (Instr.index 165 (.agg wordCells) (.int .i64 1)).run Tryz.prog w = .ok (.string ⟨#[116, 114, 117, 101]⟩) w := by kernel_rfl
theorem word_i2 (w : World) : (Instr.index 165 (.agg wordCells) (.int .i64 2)).run Tryz.prog w = .ok (.string ⟨#[102, 97, 108, 115, 101]⟩) w := by kernel_rfl
theorem word_idx (j : Nat) (hj : j < 3) (w : World) : (Instr.index 165 (.agg wordCells) (.int .i64 j)).run Tryz.prog w = .ok (.string ⟨(wordL j).toArray⟩) w := by
 match j, hj with
 | 0, _ => exact word_i0 w
 | 1, _ => exact word_i1 w
 | 2, _ => exact word_i2 w
theorem word_step (l : Sp.By) (j : Nat) (hj : j < 3) : Sp.wordIn l j (Sp.words.drop j) = if Lib.hasPrefix l (wordL j) then some (j, l.drop (wordL j).length) else Sp.wordIn l (j + 1) (Sp.words.drop (j + 1)) := by
 match j, hj with
 | 0, _ => rfl
 | 1, _ => rfl
 | 2, _ => rfl
theorem wordL_len (j : Nat) (hj : j < 3) : (wordL j).length ≤ 5 := by
 match j, hj with
 | 0, _ => decide
 | 1, _ => decide
 | 2, _ => decide
theorem heap_new (w : World) (o : Obj) (b : Nat) (hb : b = w.heap.size) : (w.alloc o).heap[b]? = some o := by
 subst hb; show (w.heap.push o)[w.heap.size]? = _; simp
def wordEnd (o : Option (Nat × Sp.By)) (l : Sp.By) (e : Ending) (w w' : World) (R : Nat) (t : ByteArray) (tw : Bool) (dp fr : Int) : Prop :=
 (∃ k l' b, o = some (k, l') ∧ e = .returned (.tuple #[.pointer (some ⟨b, 0, none⟩), .bool true]) ∧ k < 3 ∧ VB w' b k n0 [] (.slice none 0 0) (.map none) ∧ w.heap.size ≤ b ∧ RD w' R t l' tw dp fr) ∨
  (o = none ∧ e = .returned (.tuple #[.pointer none, .bool false]) ∧ RD w' R t l tw dp fr)
set_option maxHeartbeats 4000000 in
theorem word_any {w : World} {R : Nat} {t : ByteArray} {l : Sp.By} {tw : Bool} {dp fr : Int} (h : RD w R t l tw dp fr) (hT : Laid w) :
  Calls Tryz.prog 185 #[.pointer (some ⟨R, 0, none⟩)] w fun e w' => KeptX R w w' ∧ wordEnd (Sp.wordIn l 0 Sp.words) l e w w' R t tw dp fr := by
 obtain ⟨tt, fz, hg1⟩ := hT.words
 clear hT
 go_enter Tryz.func185, Tryz.ntmps185
 go_wp2_with (refine wpList_load_row rfl 165 _ rfl 0 rfl tt _ fz _ hg1 Tryz.underlying165 rfl (by kernel_rfl) ?_)
 clear hg1
 go_loopw [7] (fun i wr => ∃ j : Nat, j ≤ 3 ∧ i = .int .i64 j ∧ RD wr R t l tw dp fr ∧ KeptX R w wr ∧ Sp.wordIn l 0 Sp.words = Sp.wordIn l j (Sp.words.drop j)) (fun i _ => 3 - (intOf i).toNat)
 case atStart => exact ⟨0, by omega, rfl, h, KeptX.refl R w, rfl⟩
 case round =>
  obtain ⟨j, hj3, rfl, hr, hk, he⟩ := hrel
  have HE := hide he
  clear he h
  by_cases hlt : j < 3
  ·have hidx := word_idx j hlt
   have hwl := wordL_len j hlt
   obtain ⟨q, ha, hq⟩ := hr
   have c0 := hq.c0
   have c1 := hq.c1
   have f1 := hq.fz 1
   have b2 : (q : Int) ≤ (t.size : Int) := by have := ha.le; omega
   have b3 : (q : Int) ≤ 2000 := by have := ha.le; have := ha.small; omega
   have cH : ∀ W : World, Calls Tryz.prog 194 #[.string (t.extract q t.size), .string ⟨(wordL j).toArray⟩] W fun e w' => e = .returned (.bool (Lib.hasPrefix l (wordL j))) ∧ w' = W := fun W => by
    have := Tryz.strings_HasPrefix (t.extract q t.size) ⟨(wordL j).toArray⟩ W
    rw [Lib.extract_to_end, ha.eq] at this
    exact this
   have CH := hide cH
   have HQ := hide hq
   have HA := hide ha
   have HS := hide (word_step l j hlt)
   generalize hwj : wordL j = wj at *
   clear hwj
   clear hq ha cH
   by_cases hp : Lib.hasPrefix l wj = true
   ·have HP := hide hp
    have hpl : wj.length ≤ l.length := by
     have := hp; unfold Lib.hasPrefix at this
     exact (List.isPrefixOf_iff_prefix.1 this).length_le
    have C1 : Hid (∀ W : World, Calls Tryz.prog 194 #[.string (t.extract q t.size), .string ⟨wj.toArray⟩] W fun e w' => e = .returned (.bool true) ∧ w' = W) := by
     have := unhide CH
     rw [hp] at this
     exact this
    clear hp CH
    go_wp2_with (fail)
    go_quiet ((go_at_call 194; exact Calls.quiet_of_same (unhide C1 _)))
    go_wp2_with (fail)
    have hfin : RD ((((wr.drewN nq).setCell ⟨R, 1, none⟩ (.int .i64 ((q : Int) + wj.length))).alloc (.cells #[.int .i64 j, .bool false, .string ⟨#[]⟩, .int .i64 0, .string ⟨#[]⟩, .slice none 0 0, .map none] 111))) R t (l.drop wj.length) tw dp fr :=
     ⟨q + wj.length, (unhide HA).add wj.length hpl, (((unhide HQ).drewN nq).set1 (q + wj.length)).alloc _⟩
    go_ret2
    refine ⟨((hk.drewN nq).setCell (p := ⟨R, 1, none⟩) rfl _).alloc _, Or.inl ⟨j, l.drop wj.length, wr.heap.size, ?_, rfl, hlt, heap_new _ _ _ (by simp [World.setCell]), hk.size, hfin⟩⟩
    rw [unhide HE, unhide HS, unhide HP]; rfl
   ·replace hp : Lib.hasPrefix l wj = false := by simpa using hp
    have HP := hide hp
    have C1 : Hid (∀ W : World, Calls Tryz.prog 194 #[.string (t.extract q t.size), .string ⟨wj.toArray⟩] W fun e w' => e = .returned (.bool false) ∧ w' = W) := by
     have := unhide CH
     rw [hp] at this
     exact this
    clear hp CH
    go_wp2_with (fail)
    go_quiet ((go_at_call 194; exact Calls.quiet_of_same (unhide C1 _)))
    go_wp2_with (fail)
    go_roundw
    case rel => exact ⟨j + 1, by omega, by go_num, ⟨q, unhide HA, (unhide HQ).drewN _⟩, hk.drewN _, by rw [unhide HE, unhide HS, unhide HP]; rfl⟩
    case measure => simp [intOf]; omega
  ·go_wp2_with (fail)
   go_ret2
   refine ⟨hk, Or.inr ⟨?_, rfl, hr⟩⟩
   rw [unhide HE, show j = 3 by omega]; rfl
end Go.Proofs.YtdpomdelmdofmaaGreatDoor

namespace Go.Proofs.YtdpomdelmdofmaaGreatDoor
open Go.RowKit
set_option maxHeartbeats 4000000 in
theorem num_pA {w : World} {R : Nat} {t : ByteArray} {l : Sp.By} {tw : Bool} {dp fr : Int} (h : RD w R t l tw dp fr) (k1 : Sp.tk l 45 = false) (hd : Sp.dg l = []) :
  Calls Tryz.prog 184 #[.pointer (some ⟨R, 0, none⟩)] w fun e w' => KeptX R w w' ∧ numEnd (Sp.num l) e w' R t tw dp fr := by
 have hE : Hid (Sp.num l = none) := by
  unfold Hid Sp.num Sp.numB
  simp [k1, hd]
 have K1 := hide k1
 have HD := hide hd
 have hRw := h.lt
 have h2000 : l.length ≤ 2000 := by obtain ⟨p, ha, _⟩ := h; have := ha.len; have := ha.small; omega
 clear k1 hd
 go_enter Tryz.func184, Tryz.ntmps184
 go_wp2_with (fail)
 refine (takeN 45 _ rfl (h.alloc _) (unhide K1)).mono ?_
 rintro e w1 ⟨rfl, hr1, hk1⟩
 go_wp2_with (fail)
 refine (digits_any hr1).mono ?_
 rintro e w2 ⟨rfl, hr2, hk2⟩
 rw [unhide HD]
 have hs2 := ((Slot.new w).kept hk1 (by omega)).kept hk2 (by omega)
 have hkk2 := (((KeptX.refl R w).alloc _).trans hk1).trans hk2
 have s0 := hs2.c0
 have s1 := hs2.c1
 have s2 := hs2.c2
 have z0 := hs2.fz 0
 have z1 := hs2.fz 1
 have z2 := hs2.fz 2
 go_wp2_with (fail)
 refine bodyPost_ret (v := .tuple #[numV (false, [], 0), .bool false]) (by simp [results, Tryz.results184, go_sem, numV, s0, s1, s2]) rfl ⟨?_, Or.inr ⟨unhide hE, rfl, Sp.dgR l, ?_⟩⟩
 ·exact (((hkk2.setCell_new (by simp) _).setCell_new (by simp) _).setCell_new (by simp) _)
 ·exact (hr2.kept (((KeptX.refl w.heap.size w2).setCell (p := ⟨w.heap.size, 0, none⟩) rfl _ |>.setCell (p := ⟨w.heap.size, 1, none⟩) rfl _).setCell (p := ⟨w.heap.size, 2, none⟩) rfl _) (by omega))
set_option maxHeartbeats 4000000 in
theorem num_pB {w : World} {R : Nat} {t : ByteArray} {l : Sp.By} {tw : Bool} {dp fr : Int} (h : RD w R t l tw dp fr) (k1 : Sp.tk l 45 = false) (d : UInt8) (ds : Sp.By) (hd : Sp.dg l = d :: ds) (hz : d = 48) (hds : 1 < ds.length + 1) :
  Calls Tryz.prog 184 #[.pointer (some ⟨R, 0, none⟩)] w fun e w' => KeptX R w w' ∧ numEnd (Sp.num l) e w' R t tw dp fr := by
 have hE : Hid (Sp.num l = none) := by
  unfold Hid Sp.num Sp.numB
  have h1 : Sp.tk l 48 = true := by rw [dg_cons hd, hz]; rfl
  have h4 : 0 < ds.length := by omega
  simp [k1, hd, h1, h4]
 have K1 := hide k1
 have HD := hide hd
 have h0 := first48 d ds (first_pos d ds)
 have g48 : ((((⟨(d :: ds).toArray⟩ : ByteArray)[0]'(first_pos d ds)).toNat : Int) == 48) = true := by rw [h0, hz]; rfl
 have gl : decide ((1 : Int) < (ds.length : Int) + 1) = true := by simp; omega
 have hRw := h.lt
 have h2000 : l.length ≤ 2000 := by obtain ⟨p, ha, _⟩ := h; have := ha.len; have := ha.small; omega
 clear k1 hd hds h0 hz
 go_enter Tryz.func184, Tryz.ntmps184
 go_wp2_with (fail)
 refine (takeN 45 _ rfl (h.alloc _) (unhide K1)).mono ?_
 rintro e w1 ⟨rfl, hr1, hk1⟩
 go_wp2_with (fail)
 refine (digits_any hr1).mono ?_
 rintro e w2 ⟨rfl, hr2, hk2⟩
 rw [unhide HD]
 have hs2 := ((Slot.new w).kept hk1 (by omega)).kept hk2 (by omega)
 have hkk2 := (((KeptX.refl R w).alloc _).trans hk1).trans hk2
 have s0 := hs2.c0
 have s1 := hs2.c1
 have s2 := hs2.c2
 have z0 := hs2.fz 0
 have z1 := hs2.fz 1
 have z2 := hs2.fz 2
 go_wp2_with (fail)
 refine bodyPost_ret (v := .tuple #[numV (false, [], 0), .bool false]) (by simp [results, Tryz.results184, go_sem, numV, s0, s1, s2]) rfl ⟨?_, Or.inr ⟨unhide hE, rfl, Sp.dgR l, ?_⟩⟩
 ·exact (((hkk2.setCell_new (by simp) _).setCell_new (by simp) _).setCell_new (by simp) _)
 ·exact (hr2.kept (((KeptX.refl w.heap.size w2).setCell (p := ⟨w.heap.size, 0, none⟩) rfl _ |>.setCell (p := ⟨w.heap.size, 1, none⟩) rfl _).setCell (p := ⟨w.heap.size, 2, none⟩) rfl _) (by omega))
set_option maxHeartbeats 4000000 in
theorem num_pC1 {w : World} {R : Nat} {t : ByteArray} {l : Sp.By} {tw : Bool} {dp fr : Int} (h : RD w R t l tw dp fr) (k1 : Sp.tk l 45 = false) (d : UInt8) (ds : Sp.By) (hd : Sp.dg l = d :: ds) (hz : ¬ d = 48) (hf : Sp.frac (Sp.dgR l) = none) :
  Calls Tryz.prog 184 #[.pointer (some ⟨R, 0, none⟩)] w fun e w' => KeptX R w w' ∧ numEnd (Sp.num l) e w' R t tw dp fr := by
 have hE : Hid (Sp.num l = none) := by
  unfold Hid Sp.num Sp.numB
  have h1 : Sp.tk l 48 = false := by rw [dg_cons hd]; simpa using hz
  simp [k1, hd, hf, h1]
 have K1 := hide k1
 have HD := hide hd
 have h0 := first48 d ds (first_pos d ds)
 have g48 : ((((⟨(d :: ds).toArray⟩ : ByteArray)[0]'(first_pos d ds)).toNat : Int) == 48) = false := by
  rw [h0]; simp; intro h; exact hz (UInt8.toNat_inj.1 (by simpa using (show d.toNat = 48 by omega)))
 have HF := hide hf
 have hRw := h.lt
 have h2000 : l.length ≤ 2000 := by obtain ⟨p, ha, _⟩ := h; have := ha.len; have := ha.small; omega
 clear k1 hd h0 hz hf
 go_enter Tryz.func184, Tryz.ntmps184
 go_wp2_with (fail)
 refine (takeN 45 _ rfl (h.alloc _) (unhide K1)).mono ?_
 rintro e w1 ⟨rfl, hr1, hk1⟩
 go_wp2_with (fail)
 refine (digits_any hr1).mono ?_
 rintro e w2 ⟨rfl, hr2, hk2⟩
 rw [unhide HD]
 have hs2 := ((Slot.new w).kept hk1 (by omega)).kept hk2 (by omega)
 have hkk2 := (((KeptX.refl R w).alloc _).trans hk1).trans hk2
 go_wp2_with (fail)
 refine (fraction_any hr2).mono ?_
 rintro e w3 ⟨hk3, hc⟩
 have hs3 := hs2.kept hk3 (by omega)
 have hkk3 := hkk2.trans hk3
 rcases hc with ⟨s, l', e1, rfl, hr3⟩ | ⟨e1, s, l', rfl, hr3⟩
 ·rw [unhide HF] at e1; cases e1
 clear e1
 have s0 := hs3.c0
 have s1 := hs3.c1
 have s2 := hs3.c2
 have z0 := hs3.fz 0
 have z1 := hs3.fz 1
 have z2 := hs3.fz 2
 go_wp2_with (fail)
 refine bodyPost_ret (v := .tuple #[numV (false, [], 0), .bool false]) (by simp [results, Tryz.results184, go_sem, numV, s0, s1, s2]) rfl ⟨?_, Or.inr ⟨unhide hE, rfl, l', ?_⟩⟩
 ·exact (((hkk3.setCell_new (by simp) _).setCell_new (by simp) _).setCell_new (by simp) _)
 ·exact (hr3.kept (((KeptX.refl w.heap.size w3).setCell (p := ⟨w.heap.size, 0, none⟩) rfl _ |>.setCell (p := ⟨w.heap.size, 1, none⟩) rfl _).setCell (p := ⟨w.heap.size, 2, none⟩) rfl _) (by omega))
set_option maxHeartbeats 4000000 in
theorem num_pC2 {w : World} {R : Nat} {t : ByteArray} {l : Sp.By} {tw : Bool} {dp fr : Int} (h : RD w R t l tw dp fr) (k1 : Sp.tk l 45 = false) (d : UInt8) (ds : Sp.By) (hd : Sp.dg l = d :: ds) (hz : d = 48) (hds : ds = []) (hf : Sp.frac (Sp.dgR l) = none) :
  Calls Tryz.prog 184 #[.pointer (some ⟨R, 0, none⟩)] w fun e w' => KeptX R w w' ∧ numEnd (Sp.num l) e w' R t tw dp fr := by
 have hE : Hid (Sp.num l = none) := by
  unfold Hid Sp.num Sp.numB
  subst hds
  simp [k1, hd, hf]
 have K1 := hide k1
 have HD := hide hd
 have h0 := first48 d ds (first_pos d ds)
 have g48 : ((((⟨(d :: ds).toArray⟩ : ByteArray)[0]'(first_pos d ds)).toNat : Int) == 48) = true := by rw [h0, hz]; rfl
 have gl : decide ((1 : Int) < (ds.length : Int) + 1) = false := by subst hds; rfl
 have HF := hide hf
 have hRw := h.lt
 have h2000 : l.length ≤ 2000 := by obtain ⟨p, ha, _⟩ := h; have := ha.len; have := ha.small; omega
 clear k1 hd hds h0 hz hf
 go_enter Tryz.func184, Tryz.ntmps184
 go_wp2_with (fail)
 refine (takeN 45 _ rfl (h.alloc _) (unhide K1)).mono ?_
 rintro e w1 ⟨rfl, hr1, hk1⟩
 go_wp2_with (fail)
 refine (digits_any hr1).mono ?_
 rintro e w2 ⟨rfl, hr2, hk2⟩
 rw [unhide HD]
 have hs2 := ((Slot.new w).kept hk1 (by omega)).kept hk2 (by omega)
 have hkk2 := (((KeptX.refl R w).alloc _).trans hk1).trans hk2
 go_wp2_with (fail)
 refine (fraction_any hr2).mono ?_
 rintro e w3 ⟨hk3, hc⟩
 have hs3 := hs2.kept hk3 (by omega)
 have hkk3 := hkk2.trans hk3
 rcases hc with ⟨s, l', e1, rfl, hr3⟩ | ⟨e1, s, l', rfl, hr3⟩
 ·rw [unhide HF] at e1; cases e1
 clear e1
 have s0 := hs3.c0
 have s1 := hs3.c1
 have s2 := hs3.c2
 have z0 := hs3.fz 0
 have z1 := hs3.fz 1
 have z2 := hs3.fz 2
 go_wp2_with (fail)
 refine bodyPost_ret (v := .tuple #[numV (false, [], 0), .bool false]) (by simp [results, Tryz.results184, go_sem, numV, s0, s1, s2]) rfl ⟨?_, Or.inr ⟨unhide hE, rfl, l', ?_⟩⟩
 ·exact (((hkk3.setCell_new (by simp) _).setCell_new (by simp) _).setCell_new (by simp) _)
 ·exact (hr3.kept (((KeptX.refl w.heap.size w3).setCell (p := ⟨w.heap.size, 0, none⟩) rfl _ |>.setCell (p := ⟨w.heap.size, 1, none⟩) rfl _).setCell (p := ⟨w.heap.size, 2, none⟩) rfl _) (by omega))
set_option maxHeartbeats 4000000 in
theorem num_pD1 {w : World} {R : Nat} {t : ByteArray} {l : Sp.By} {tw : Bool} {dp fr : Int} (h : RD w R t l tw dp fr) (k1 : Sp.tk l 45 = false) (d : UInt8) (ds : Sp.By) (hd : Sp.dg l = d :: ds) (hz : ¬ d = 48) (f l2 : Sp.By) (hf : Sp.frac (Sp.dgR l) = some (f, l2)) (he : Sp.expo l2 = none) :
  Calls Tryz.prog 184 #[.pointer (some ⟨R, 0, none⟩)] w fun e w' => KeptX R w w' ∧ numEnd (Sp.num l) e w' R t tw dp fr := by
 have hE : Hid (Sp.num l = none) := by
  unfold Hid Sp.num Sp.numB
  have h1 : Sp.tk l 48 = false := by rw [dg_cons hd]; simpa using hz
  simp [k1, hd, hf, he, h1]
 have K1 := hide k1
 have HD := hide hd
 have h0 := first48 d ds (first_pos d ds)
 have g48 : ((((⟨(d :: ds).toArray⟩ : ByteArray)[0]'(first_pos d ds)).toNat : Int) == 48) = false := by
  rw [h0]; simp; intro h; exact hz (UInt8.toNat_inj.1 (by simpa using (show d.toNat = 48 by omega)))
 have HF := hide hf
 have HX := hide he
 have hRw := h.lt
 have h2000 : l.length ≤ 2000 := by obtain ⟨p, ha, _⟩ := h; have := ha.len; have := ha.small; omega
 clear k1 hd h0 hz hf he
 go_enter Tryz.func184, Tryz.ntmps184
 go_wp2_with (fail)
 refine (takeN 45 _ rfl (h.alloc _) (unhide K1)).mono ?_
 rintro e w1 ⟨rfl, hr1, hk1⟩
 go_wp2_with (fail)
 refine (digits_any hr1).mono ?_
 rintro e w2 ⟨rfl, hr2, hk2⟩
 rw [unhide HD]
 have hs2 := ((Slot.new w).kept hk1 (by omega)).kept hk2 (by omega)
 have hkk2 := (((KeptX.refl R w).alloc _).trans hk1).trans hk2
 go_wp2_with (fail)
 refine (fraction_any hr2).mono ?_
 rintro e w3 ⟨hk3, hc⟩
 have hs3 := hs2.kept hk3 (by omega)
 have hkk3 := hkk2.trans hk3
 rcases hc with ⟨s, l', e1, rfl, hr3⟩ | ⟨e1, _⟩
 rotate_left
 ·rw [unhide HF] at e1; cases e1
 rw [unhide HF] at e1
 injection e1 with e1
 injection e1 with e1 e2
 subst e1 e2
 go_wp2_with (fail)
 refine (exponent_any hr3).mono ?_
 rintro e w4 ⟨hk4, hc⟩
 have hs4 := hs3.kept hk4 (by omega)
 have hkk4 := hkk3.trans hk4
 rcases hc with ⟨x', l', e1, rfl, hr4⟩ | ⟨e1, x', l', rfl, hr4⟩
 ·rw [unhide HX] at e1; cases e1
 clear e1
 have s0 := hs4.c0
 have s1 := hs4.c1
 have s2 := hs4.c2
 have z0 := hs4.fz 0
 have z1 := hs4.fz 1
 have z2 := hs4.fz 2
 go_wp2_with (fail)
 refine bodyPost_ret (v := .tuple #[numV (false, [], 0), .bool false]) (by simp [results, Tryz.results184, go_sem, numV, s0, s1, s2]) rfl ⟨?_, Or.inr ⟨unhide hE, rfl, l', ?_⟩⟩
 ·exact (((hkk4.setCell_new (by simp) _).setCell_new (by simp) _).setCell_new (by simp) _)
 ·exact (hr4.kept (((KeptX.refl w.heap.size w4).setCell (p := ⟨w.heap.size, 0, none⟩) rfl _ |>.setCell (p := ⟨w.heap.size, 1, none⟩) rfl _).setCell (p := ⟨w.heap.size, 2, none⟩) rfl _) (by omega))
set_option maxHeartbeats 4000000 in
theorem num_pD2 {w : World} {R : Nat} {t : ByteArray} {l : Sp.By} {tw : Bool} {dp fr : Int} (h : RD w R t l tw dp fr) (k1 : Sp.tk l 45 = false) (d : UInt8) (ds : Sp.By) (hd : Sp.dg l = d :: ds) (hz : d = 48) (hds : ds = []) (f l2 : Sp.By) (hf : Sp.frac (Sp.dgR l) = some (f, l2)) (he : Sp.expo l2 = none) :
  Calls Tryz.prog 184 #[.pointer (some ⟨R, 0, none⟩)] w fun e w' => KeptX R w w' ∧ numEnd (Sp.num l) e w' R t tw dp fr := by
 have hE : Hid (Sp.num l = none) := by
  unfold Hid Sp.num Sp.numB
  subst hds
  simp [k1, hd, hf, he]
 have K1 := hide k1
 have HD := hide hd
 have h0 := first48 d ds (first_pos d ds)
 have g48 : ((((⟨(d :: ds).toArray⟩ : ByteArray)[0]'(first_pos d ds)).toNat : Int) == 48) = true := by rw [h0, hz]; rfl
 have gl : decide ((1 : Int) < (ds.length : Int) + 1) = false := by subst hds; rfl
 have HF := hide hf
 have HX := hide he
 have hRw := h.lt
 have h2000 : l.length ≤ 2000 := by obtain ⟨p, ha, _⟩ := h; have := ha.len; have := ha.small; omega
 clear k1 hd hds h0 hz hf he
 go_enter Tryz.func184, Tryz.ntmps184
 go_wp2_with (fail)
 refine (takeN 45 _ rfl (h.alloc _) (unhide K1)).mono ?_
 rintro e w1 ⟨rfl, hr1, hk1⟩
 go_wp2_with (fail)
 refine (digits_any hr1).mono ?_
 rintro e w2 ⟨rfl, hr2, hk2⟩
 rw [unhide HD]
 have hs2 := ((Slot.new w).kept hk1 (by omega)).kept hk2 (by omega)
 have hkk2 := (((KeptX.refl R w).alloc _).trans hk1).trans hk2
 go_wp2_with (fail)
 refine (fraction_any hr2).mono ?_
 rintro e w3 ⟨hk3, hc⟩
 have hs3 := hs2.kept hk3 (by omega)
 have hkk3 := hkk2.trans hk3
 rcases hc with ⟨s, l', e1, rfl, hr3⟩ | ⟨e1, _⟩
 rotate_left
 ·rw [unhide HF] at e1; cases e1
 rw [unhide HF] at e1
 injection e1 with e1
 injection e1 with e1 e2
 subst e1 e2
 go_wp2_with (fail)
 refine (exponent_any hr3).mono ?_
 rintro e w4 ⟨hk4, hc⟩
 have hs4 := hs3.kept hk4 (by omega)
 have hkk4 := hkk3.trans hk4
 rcases hc with ⟨x', l', e1, rfl, hr4⟩ | ⟨e1, x', l', rfl, hr4⟩
 ·rw [unhide HX] at e1; cases e1
 clear e1
 have s0 := hs4.c0
 have s1 := hs4.c1
 have s2 := hs4.c2
 have z0 := hs4.fz 0
 have z1 := hs4.fz 1
 have z2 := hs4.fz 2
 go_wp2_with (fail)
 refine bodyPost_ret (v := .tuple #[numV (false, [], 0), .bool false]) (by simp [results, Tryz.results184, go_sem, numV, s0, s1, s2]) rfl ⟨?_, Or.inr ⟨unhide hE, rfl, l', ?_⟩⟩
 ·exact (((hkk4.setCell_new (by simp) _).setCell_new (by simp) _).setCell_new (by simp) _)
 ·exact (hr4.kept (((KeptX.refl w.heap.size w4).setCell (p := ⟨w.heap.size, 0, none⟩) rfl _ |>.setCell (p := ⟨w.heap.size, 1, none⟩) rfl _).setCell (p := ⟨w.heap.size, 2, none⟩) rfl _) (by omega))
end Go.Proofs.YtdpomdelmdofmaaGreatDoor

namespace Go.Proofs.YtdpomdelmdofmaaGreatDoor
open Go.RowKit
set_option maxHeartbeats 4000000 in
theorem num_pE1 {w : World} {R : Nat} {t : ByteArray} {l : Sp.By} {tw : Bool} {dp fr : Int} (h : RD w R t l tw dp fr) (k1 : Sp.tk l 45 = false) (d : UInt8) (ds : Sp.By) (hd : Sp.dg l = d :: ds) (hz : ¬ d = 48) (f l2 : Sp.By) (hf : Sp.frac (Sp.dgR l) = some (f, l2)) (x : Int) (l3 : Sp.By) (he : Sp.expo l2 = some (x, l3)) :
  Calls Tryz.prog 184 #[.pointer (some ⟨R, 0, none⟩)] w fun e w' => KeptX R w w' ∧ numEnd (Sp.num l) e w' R t tw dp fr := by
 have hE : Hid (Sp.num l = some (Sp.mkNm false (d :: ds ++ f) (x - f.length), l3)) := by
  unfold Hid Sp.num Sp.numB
  have h1 : Sp.tk l 48 = false := by rw [dg_cons hd]; simpa using hz
  simp [k1, hd, hf, he, h1]
 have K1 := hide k1
 have HD := hide hd
 have h0 := first48 d ds (first_pos d ds)
 have g48 : ((((⟨(d :: ds).toArray⟩ : ByteArray)[0]'(first_pos d ds)).toNat : Int) == 48) = false := by
  rw [h0]; simp; intro h; exact hz (UInt8.toNat_inj.1 (by simpa using (show d.toNat = 48 by omega)))
 have HF := hide hf
 have HX := hide he
 have hRw := h.lt
 have h2000 : l.length ≤ 2000 := by obtain ⟨p, ha, _⟩ := h; have := ha.len; have := ha.small; omega
 clear k1 hd h0 hz hf he
 go_enter Tryz.func184, Tryz.ntmps184
 go_wp2_with (fail)
 refine (takeN 45 _ rfl (h.alloc _) (unhide K1)).mono ?_
 rintro e w1 ⟨rfl, hr1, hk1⟩
 go_wp2_with (fail)
 refine (digits_any hr1).mono ?_
 rintro e w2 ⟨rfl, hr2, hk2⟩
 rw [unhide HD]
 have hs2 := ((Slot.new w).kept hk1 (by omega)).kept hk2 (by omega)
 have hkk2 := (((KeptX.refl R w).alloc _).trans hk1).trans hk2
 go_wp2_with (fail)
 refine (fraction_any hr2).mono ?_
 rintro e w3 ⟨hk3, hc⟩
 have hs3 := hs2.kept hk3 (by omega)
 have hkk3 := hkk2.trans hk3
 rcases hc with ⟨s, l', e1, rfl, hr3⟩ | ⟨e1, _⟩
 rotate_left
 ·rw [unhide HF] at e1; cases e1
 rw [unhide HF] at e1
 injection e1 with e1
 injection e1 with e1 e2
 subst e1 e2
 go_wp2_with (fail)
 refine (exponent_any hr3).mono ?_
 rintro e w4 ⟨hk4, hc⟩
 have hs4 := hs3.kept hk4 (by omega)
 have hkk4 := hkk3.trans hk4
 rcases hc with ⟨x', l', e1, rfl, hr4⟩ | ⟨e1, _⟩
 rotate_left
 ·rw [unhide HX] at e1; cases e1
 rw [unhide HX] at e1
 injection e1 with e1
 injection e1 with e1 e2
 subst e1 e2
 have hx1 := expo_bd (unhide HX)
 have hfl : f.length ≤ 2000 := by
  have := frac_len (unhide HF); have := dg_len l; have := List.length_tail (l := l); omega
 have hdl : ds.length + 1 ≤ 2000 := by
  have e1 := dg_len l; rw [unhide HD] at e1; have e2 := List.length_tail (l := l); rw [List.length_cons] at e1; omega
 have hcat : ¬ 9223372036854775807 < ds.length + 1 + f.length := by omega
 go_wp2_with (fail)
 have hap : (⟨(d :: ds).toArray⟩ : ByteArray) ++ ⟨f.toArray⟩ = ⟨(d :: ds ++ f).toArray⟩ := by
  apply ByteArray.ext; simp
 rw [hap]
 refine (MakeNumber_any false (d :: ds ++ f) (x - f.length) w4 (by omega) (by omega) (by simp; omega)).mono ?_
 rintro e w5 ⟨rfl, hb5⟩
 have hk5 := KeptX.of_below (X := R) hb5
 have hs5 := hs4.kept hk5 (by omega)
 have hkk5 := hkk4.trans hk5
 obtain ⟨q, ha, hq⟩ := hr4.kept (KeptX.of_below (X := R + 1) hb5) (by omega)
 generalize hn : Sp.mkNm false (d :: ds ++ f) (x - f.length) = n at *
 obtain ⟨nb, nd, ne⟩ := n
 have hne : -10000000 ≤ ne ∧ ne ≤ 10000000 := by
  have hm := mkNm_bd false (d :: ds ++ f) (x - f.length)
  rw [hn] at hm
  have e : (d :: ds ++ f).length = ds.length + 1 + f.length := by simp; omega
  rw [e] at hm
  simp only at hm
  omega
 have c4 : ∀ o, (w5.alloc o).cell? ⟨R, 4, none⟩ = some (.int .i64 fr) := fun o => (hq.alloc o).c4
 have f4 : ∀ o, (w5.alloc o).frozen? ⟨R, 4, none⟩ = false := fun o => (hq.alloc o).fz 4
 have hs6 : ∀ o, Slot (w5.alloc o) w.heap.size := fun o => hs5.kept ((KeptX.refl R w5).alloc o) (by omega)
 have s0 := fun o => (hs6 o).c0
 have s1 := fun o => (hs6 o).c1
 have s2 := fun o => (hs6 o).c2
 have z0 := fun o => (hs6 o).fz 0
 have z1 := fun o => (hs6 o).fz 1
 have z2 := fun o => (hs6 o).fz 2
 have hz5 := hkk5.size
 unfold numV
 go_wp2_with (fail)
 go_region
 go_wp2_with (fail)
 all_goals (
  refine bodyPost_ret (v := .tuple #[numV (nb, nd, ne), .bool true]) (by simp [results, Tryz.results184, go_sem, numV, s0, s1, s2]) rfl ⟨?_, Or.inl ⟨(nb, nd, ne), l3, unhide hE, rfl, ⟨q, ha, num_fin hq _ _ _ _ _ _ _ (by omega) (by simp only; omega)⟩⟩⟩
  exact ((((((hkk5.alloc _).setCell (p := ⟨R, 4, none⟩) rfl _).setCell_new (by simp) _).setCell_new (by simp) _).setCell_new (by simp) _).drew))
set_option maxHeartbeats 4000000 in
theorem num_pE2 {w : World} {R : Nat} {t : ByteArray} {l : Sp.By} {tw : Bool} {dp fr : Int} (h : RD w R t l tw dp fr) (k1 : Sp.tk l 45 = false) (d : UInt8) (ds : Sp.By) (hd : Sp.dg l = d :: ds) (hz : d = 48) (hds : ds = []) (f l2 : Sp.By) (hf : Sp.frac (Sp.dgR l) = some (f, l2)) (x : Int) (l3 : Sp.By) (he : Sp.expo l2 = some (x, l3)) :
  Calls Tryz.prog 184 #[.pointer (some ⟨R, 0, none⟩)] w fun e w' => KeptX R w w' ∧ numEnd (Sp.num l) e w' R t tw dp fr := by
 have hE : Hid (Sp.num l = some (Sp.mkNm false (d :: ds ++ f) (x - f.length), l3)) := by
  unfold Hid Sp.num Sp.numB
  subst hds
  simp [k1, hd, hf, he]
 have K1 := hide k1
 have HD := hide hd
 have h0 := first48 d ds (first_pos d ds)
 have g48 : ((((⟨(d :: ds).toArray⟩ : ByteArray)[0]'(first_pos d ds)).toNat : Int) == 48) = true := by rw [h0, hz]; rfl
 have gl : decide ((1 : Int) < (ds.length : Int) + 1) = false := by subst hds; rfl
 have HF := hide hf
 have HX := hide he
 have hRw := h.lt
 have h2000 : l.length ≤ 2000 := by obtain ⟨p, ha, _⟩ := h; have := ha.len; have := ha.small; omega
 clear k1 hd hds h0 hz hf he
 go_enter Tryz.func184, Tryz.ntmps184
 go_wp2_with (fail)
 refine (takeN 45 _ rfl (h.alloc _) (unhide K1)).mono ?_
 rintro e w1 ⟨rfl, hr1, hk1⟩
 go_wp2_with (fail)
 refine (digits_any hr1).mono ?_
 rintro e w2 ⟨rfl, hr2, hk2⟩
 rw [unhide HD]
 have hs2 := ((Slot.new w).kept hk1 (by omega)).kept hk2 (by omega)
 have hkk2 := (((KeptX.refl R w).alloc _).trans hk1).trans hk2
 go_wp2_with (fail)
 refine (fraction_any hr2).mono ?_
 rintro e w3 ⟨hk3, hc⟩
 have hs3 := hs2.kept hk3 (by omega)
 have hkk3 := hkk2.trans hk3
 rcases hc with ⟨s, l', e1, rfl, hr3⟩ | ⟨e1, _⟩
 rotate_left
 ·rw [unhide HF] at e1; cases e1
 rw [unhide HF] at e1
 injection e1 with e1
 injection e1 with e1 e2
 subst e1 e2
 go_wp2_with (fail)
 refine (exponent_any hr3).mono ?_
 rintro e w4 ⟨hk4, hc⟩
 have hs4 := hs3.kept hk4 (by omega)
 have hkk4 := hkk3.trans hk4
 rcases hc with ⟨x', l', e1, rfl, hr4⟩ | ⟨e1, _⟩
 rotate_left
 ·rw [unhide HX] at e1; cases e1
 rw [unhide HX] at e1
 injection e1 with e1
 injection e1 with e1 e2
 subst e1 e2
 have hx1 := expo_bd (unhide HX)
 have hfl : f.length ≤ 2000 := by
  have := frac_len (unhide HF); have := dg_len l; have := List.length_tail (l := l); omega
 have hdl : ds.length + 1 ≤ 2000 := by
  have e1 := dg_len l; rw [unhide HD] at e1; have e2 := List.length_tail (l := l); rw [List.length_cons] at e1; omega
 have hcat : ¬ 9223372036854775807 < ds.length + 1 + f.length := by omega
 go_wp2_with (fail)
 have hap : (⟨(d :: ds).toArray⟩ : ByteArray) ++ ⟨f.toArray⟩ = ⟨(d :: ds ++ f).toArray⟩ := by
  apply ByteArray.ext; simp
 rw [hap]
 refine (MakeNumber_any false (d :: ds ++ f) (x - f.length) w4 (by omega) (by omega) (by simp; omega)).mono ?_
 rintro e w5 ⟨rfl, hb5⟩
 have hk5 := KeptX.of_below (X := R) hb5
 have hs5 := hs4.kept hk5 (by omega)
 have hkk5 := hkk4.trans hk5
 obtain ⟨q, ha, hq⟩ := hr4.kept (KeptX.of_below (X := R + 1) hb5) (by omega)
 generalize hn : Sp.mkNm false (d :: ds ++ f) (x - f.length) = n at *
 obtain ⟨nb, nd, ne⟩ := n
 have hne : -10000000 ≤ ne ∧ ne ≤ 10000000 := by
  have hm := mkNm_bd false (d :: ds ++ f) (x - f.length)
  rw [hn] at hm
  have e : (d :: ds ++ f).length = ds.length + 1 + f.length := by simp; omega
  rw [e] at hm
  simp only at hm
  omega
 have c4 : ∀ o, (w5.alloc o).cell? ⟨R, 4, none⟩ = some (.int .i64 fr) := fun o => (hq.alloc o).c4
 have f4 : ∀ o, (w5.alloc o).frozen? ⟨R, 4, none⟩ = false := fun o => (hq.alloc o).fz 4
 have hs6 : ∀ o, Slot (w5.alloc o) w.heap.size := fun o => hs5.kept ((KeptX.refl R w5).alloc o) (by omega)
 have s0 := fun o => (hs6 o).c0
 have s1 := fun o => (hs6 o).c1
 have s2 := fun o => (hs6 o).c2
 have z0 := fun o => (hs6 o).fz 0
 have z1 := fun o => (hs6 o).fz 1
 have z2 := fun o => (hs6 o).fz 2
 have hz5 := hkk5.size
 unfold numV
 go_wp2_with (fail)
 go_region
 go_wp2_with (fail)
 all_goals (
  refine bodyPost_ret (v := .tuple #[numV (nb, nd, ne), .bool true]) (by simp [results, Tryz.results184, go_sem, numV, s0, s1, s2]) rfl ⟨?_, Or.inl ⟨(nb, nd, ne), l3, unhide hE, rfl, ⟨q, ha, num_fin hq _ _ _ _ _ _ _ (by omega) (by simp only; omega)⟩⟩⟩
  exact ((((((hkk5.alloc _).setCell (p := ⟨R, 4, none⟩) rfl _).setCell_new (by simp) _).setCell_new (by simp) _).setCell_new (by simp) _).drew))
end Go.Proofs.YtdpomdelmdofmaaGreatDoor
