/-
  Walk of the reference's own tokens.
-/
import Derived.Test.YtdpomdelmdofmaaGreatDoorPart36
namespace Go.Proofs.YtdpomdelmdofmaaGreatDoor
open Go.RowKit
def u8s (l : Sp.By) : List Value := l.map fun c => .int .u8 (c.toNat : Nat)
theorem u8s_len (l : Sp.By) : (u8s l).length = l.length := by simp [u8s]
theorem u8_info : (Tryz.prog.info? 5).map (fun i => (i.zero, i.size, i.bytes)) = some (some (.int .u8 0), 1, 1) := by kernel_rfl
set_option maxRecDepth 100000 in
theorem conv_row {w : World} {B n : Nat} {tv : Value} {l : Sp.By} (h : w.ownsRow B 5 1 tv n (u8s l)) (hn : n = l.length) {w' : World} (hk : ∀ g, tv.ownBlock = some g → w'.heap[g]? = w.heap[g]?) :
  (convert 117 9 tv).run Tryz.prog w' = .ok (.string ⟨l.toArray⟩) w' := by
 subst hn
 by_cases h0 : l.length = 0
 ·obtain rfl : l = [] := List.eq_nil_of_length_eq_zero h0
  rcases h.2 with ⟨e, _⟩ | ⟨g, cap, cur, e, _⟩
  ·subst e
   exact run_convert_bytes_nil _ 117 5 Tryz.underlying117 Tryz.underlying5 0 0 9 Tryz.underlying9
  ·subst e
   exact run_convert_bytes_arg _ 117 5 Tryz.underlying117 Tryz.underlying5 g 0 0 cap [] rfl (fun i hi => by omega) 9 Tryz.underlying9
 ·obtain ⟨g, cap, rfl, _, _, hg, hc⟩ := owns_cell1 h (by omega)
  have hkg := hk g rfl
  have := run_convert_bytes_arg (P := Tryz.prog) w' 117 5 Tryz.underlying117 Tryz.underlying5 g 0 l.length cap (l.map fun c => ((c.toNat : Nat) : Int)) (by simp) (fun i hi => by
   rw [Nat.zero_add, World.cell?_of_block (w := w) hkg, hc i (by rw [u8s_len]; exact hi)]
   simp [u8s, hi]) 9 Tryz.underlying9
  rw [this]
  congr 2
  unfold strOfNums
  rw [List.map_map, show ((fun n : Int => UInt8.ofNat n.toNat) ∘ fun c : UInt8 => ((c.toNat : Nat) : Int)) = id from funext fun c => by simp, List.map_id]
def TokR (w : World) (v : Value) (l : List Sp.By) : Prop :=
 (l = [] ∧ ∃ a c, v = .slice a 0 c) ∨ (0 < l.length ∧ ∃ g off cap, v = .slice (some ⟨g, off, none⟩) l.length cap ∧ l.length ≤ cap ∧ cap ≤ maxLen ∧ g < w.heap.size ∧ ∀ k (hk : k < l.length), w.cell? ⟨g, off + k, none⟩ = some (.string ⟨l[k].toArray⟩))
theorem TokR.bel {w w' : World} {v : Value} {l : List Sp.By} (h : TokR w v l) (hb : Below w.heap.size w w') : TokR w' v l := by
 rcases h with h | ⟨hp, g, off, cap, rfl, h1, h2, hg, hc⟩
 ·exact Or.inl h
 ·exact Or.inr ⟨hp, g, off, cap, rfl, h1, h2, Nat.lt_of_lt_of_le hg hb.size, fun k hk => (hb.cell (p := ⟨g, off + k, none⟩) hg).trans (hc k hk)⟩
theorem tokR_own {w : World} {B : Nat} {v : Value} {l : List Sp.By} (h : w.ownsRow B 9 1 v l.length (strs l)) : TokR w v l := by
 by_cases h0 : l.length = 0
 ·obtain rfl : l = [] := List.eq_nil_of_length_eq_zero h0
  rcases h.2 with ⟨e, _⟩ | ⟨g, cap, cur, e, _⟩
  ·exact Or.inl ⟨rfl, none, 0, e⟩
  ·exact Or.inl ⟨rfl, _, cap, e⟩
 ·obtain ⟨g, cap, rfl, h1, h2, hg, hc⟩ := owns_cell1 h (by omega)
  refine Or.inr ⟨by omega, g, 0, cap, rfl, h1, h2, hg, fun k hk => ?_⟩
  rw [Nat.zero_add, hc k (by simpa [strs] using hk)]
  simp [strs]
def tokEnd (o : Option (List Sp.By)) (e : Ending) (w' : World) : Prop := match o with
 | some ks => ∃ v, e = .returned (.tuple #[v, .bool true]) ∧ TokR w' v ks
 | none => e = .returned (.tuple #[.slice none 0 0, .bool false])
def TkI (t : ByteArray) (r : Sp.By) (w : World) (lv tv : Value) (k : Nat) (wr : World) : Prop :=
 ∃ (ks : List Sp.By) (tb l' : Sp.By), AtL t k l' ∧ Sp.tkz [] r = (Sp.tkz tb l').map (ks ++ ·) ∧ wr.ownsRow w.heap.size 9 1 lv ks.length (strs ks) ∧ wr.ownsRow w.heap.size 5 1 tv tb.length (u8s tb) ∧
  (∀ g, lv.ownBlock = some g → tv.ownBlock ≠ some g) ∧ ks.length + tb.length ≤ k ∧ Below w.heap.size w wr
section
variable {t : ByteArray} {r : Sp.By} {w wr w6 : World} {lv tv : Value} {k : Nat} {ks : List Sp.By} {tb l' : Sp.By}
theorem TkI.slash {o : Obj} {g cap : Nat} (hat : AtL t k (47 :: l')) (htk : Sp.tkz [] r = (Sp.tkz tb (47 :: l')).map (ks ++ ·)) (hlv : wr.ownsRow w.heap.size 9 1 lv ks.length (strs ks)) (hkl : ks.length + tb.length ≤ k) (hbl : Below w.heap.size w wr)
  (hown : w6.ownsRow w.heap.size 9 1 (.slice (some ⟨g, 0, none⟩) (ks.length + 1) cap) (ks.length + 1) (strs ks ++ [.string ⟨tb.toArray⟩])) (hg : (wr.alloc o).grownBy w6 lv.ownBlock) : TkI t r w (.slice (some ⟨g, 0, none⟩) (ks.length + 1) cap) (.slice none 0 0) (k + 1) w6 := by
 have hsz := hbl.size
 refine ⟨ks ++ [tb], [], l', hat.next, ?_, ?_, World.ownsRow_nil _ _ _ _, (fun g _ h => by simp [Value.ownBlock] at h), (by simp; omega), ?_⟩
 ·rw [htk, Sp.tkz_eq, if_pos rfl]
  cases Sp.tkz [] l' <;> simp
 ·have e : strs (ks ++ [tb]) = strs ks ++ [.string ⟨tb.toArray⟩] := by simp [strs]
  rw [e, List.length_append, List.length_singleton]
  exact hown
 ·refine hbl.trans ⟨hg.os, hg.tape, hg.output, Nat.le_trans (show wr.heap.size ≤ (wr.alloc o).heap.size by simp) hg.size, fun j hj => ?_⟩
  refine (hg.block j (by simp; omega) ?_).trans (Below.heap_alloc wr o j (by omega))
  intro h
  have := (owns_lt hlv j h.symm).2
  omega
theorem TkI.byte {o : Obj} {g cap n : Nat} {x : UInt8} {l2 : Sp.By} (hat : AtL t (k + n) l2) (hn : 1 ≤ n) (htk : Sp.tkz [] r = (Sp.tkz (tb ++ [x]) l2).map (ks ++ ·)) (hlv : wr.ownsRow w.heap.size 9 1 lv ks.length (strs ks)) (htv : wr.ownsRow w.heap.size 5 1 tv tb.length (u8s tb))
  (hne : ∀ g, lv.ownBlock = some g → tv.ownBlock ≠ some g) (hkl : ks.length + tb.length ≤ k) (hbl : Below w.heap.size w wr)
  (hown : w6.ownsRow w.heap.size 5 1 (.slice (some ⟨g, 0, none⟩) (tb.length + 1) cap) (tb.length + 1) (u8s tb ++ [.int .u8 (x.toNat : Nat)])) (hg : (wr.alloc o).grownBy w6 tv.ownBlock) (hat3 : tv.ownBlock = some g ∨ g = wr.heap.size + 1) :
  TkI t r w lv (.slice (some ⟨g, 0, none⟩) (tb.length + 1) cap) (k + n) w6 := by
 have hsz := hbl.size
 refine ⟨ks, tb ++ [x], l2, hat, htk, ?_, ?_, ?_, (by simp; omega), ?_⟩
 ·refine owns_kept hlv fun g' hg' => ?_
  have hlt := (owns_lt hlv g' hg').1
  exact (hg.block g' (by simp; omega) (fun h => hne g' hg' h.symm)).trans (Below.heap_alloc wr o g' (by omega))
 ·have e : u8s (tb ++ [x]) = u8s tb ++ [.int .u8 (x.toNat : Nat)] := by simp [u8s]
  rw [e, List.length_append, List.length_singleton]
  exact hown
 ·intro g' hg' h
  have hlt := (owns_lt hlv g' hg').1
  have e : g = g' := by simpa [Value.ownBlock] using h
  subst e
  rcases hat3 with h3 | h3
  ·exact hne g hg' h3
  ·omega
 ·refine hbl.trans ⟨hg.os, hg.tape, hg.output, Nat.le_trans (show wr.heap.size ≤ (wr.alloc o).heap.size by simp) hg.size, fun j hj => ?_⟩
  refine (hg.block j (by simp; omega) ?_).trans (Below.heap_alloc wr o j (by omega))
  intro h
  have := (owns_lt htv j h.symm).2
  omega
end
theorem rTokens_nil (w : World) : Calls Tryz.prog 68 #[.string ⟨#[]⟩] w fun e w' => tokEnd (some []) e w' ∧ Below w.heap.size w w' := by
 have HU := hide (rUtf8_anyL ⟨#[]⟩ (by decide) w)
 go_enter Tryz.func68, Tryz.ntmps68
 go_wp2_with (fail)
 refine (unhide HU).mono ?_
 rintro e w1 ⟨rfl, hb⟩
 go_wp2_with (fail)
 go_ret2
 exact ⟨⟨_, rfl, Or.inl ⟨rfl, none, 0, rfl⟩⟩, hb⟩
set_option maxRecDepth 100000 in
set_option maxHeartbeats 16000000 in
theorem rTokens_cons {t : ByteArray} {c : UInt8} {r : Sp.By} (ht : AtL t 0 (c :: r)) (w : World) : Calls Tryz.prog 68 #[.string t] w fun e w' => tokEnd (Sp.toks (c :: r)) e w' ∧ Below w.heap.size w w' := by
 have hdl : t.data.toList = c :: r := by simpa using ht.eq
 have HU := hide (rUtf8_anyL t ht.small w)
 rw [hdl] at HU
 have hE := emp_f (X := t) (k := r.length) (by have := ht.len; simp at this; omega)
 have hlt := ht.lt
 have hby : t[0]'hlt = c := ht.byte
 obtain ⟨R, hR⟩ : ∃ R, R = Sp.toks (c :: r) := ⟨_, rfl⟩
 have hR2 := hR
 rw [toks_tkz] at hR2
 simp only at hR2
 rw [← hR]
 have HT := hide ht
 have HDL := hide hdl
 have HR := hide hR2
 clear ht hdl hR hR2
 go_enter Tryz.func68, Tryz.ntmps68
 go_wp2_with (fail)
 refine (unhide HU).mono ?_
 rintro e w1 ⟨rfl, hb⟩
 have HB := hide hb
 clear hb HU
 cases hu : Sp.u8 (c :: r) with
 | false =>
  have HF := hide (show R = none by rw [unhide HR, if_neg (by rw [hu]; decide)])
  clear hu
  go_wp2_with (fail)
  go_ret2
  exact ⟨by rw [unhide HF]; rfl, unhide HB⟩
 | true =>
  by_cases h47 : c = 47
  ·have HF := hide (show R = Sp.tkz [] r by rw [unhide HR, if_pos hu, if_pos h47])
   subst h47
   clear hu HR
   have hI : TkI t r w (.slice none 0 0) (.slice none 0 0) 1 w1 := by
    refine ⟨[], [], r, ?_, ?_, World.ownsRow_nil _ _ _ _, World.ownsRow_nil _ _ _ _, (fun g hg => by simp [Value.ownBlock] at hg), (by simp), unhide HB⟩
    ·have := (unhide HT).next; simpa using this
    ·cases Sp.tkz [] r <;> simp
   have HI := hide hI
   clear hI
   obtain ⟨i0, hi0, hz0, hz1, hz2⟩ := info_parts u8_info
   obtain ⟨j0, hj0, jz0, jz1, jz2⟩ := info_parts o_str
   have hsm := (unhide HT).small
   go_wp2_with (fail)
   clear hby hE
   go_loopw [5, 6, 7] (fun lv tv i wr => ∃ (k : Nat) (lv' tv' : Value), lv' = lv ∧ tv' = tv ∧ i = .int .i64 k ∧ Hid (TkI t r w lv' tv' k wr)) (fun _ _ i _ => t.size - (intOf i).toNat)
   case atStart => exact ⟨1, _, _, rfl, rfl, rfl, HI⟩
   case round =>
    obtain ⟨k, lv, tv, rfl, rfl, rfl, hI⟩ := hrel
    obtain ⟨ks, tb, l', hat, htk, hlv, htv, hne, hkl, hbl⟩ := unhide hI
    have hln := hat.len
    have hle := hat.le
    have hcv := fun n => conv_row htv rfl (w' := wr.drewN n) (fun _ _ => rfl)
    have hcv0 := conv_row htv rfl (w' := wr) (fun _ _ => rfl)
    have hszr := hbl.size
    have HLV := hide hlv
    have HTV := hide htv
    have HAT := hide hat
    have HTK := hide htk
    have HNE := hide hne
    have HBL := hide hbl
    clear hI
    cases l' with
    | nil =>
     have e1 : ¬ k < t.size := by have := hat.nil; omega
     have HF2 := hide (show R = some (ks ++ [tb]) by rw [unhide HF, htk]; rfl)
     clear hlv htv hat htk hne hbl
     go_wp2_with (at_builtin; refine wpList_append_lies _ rfl _ _ _ rfl w.heap.size 9 j0 _ 1 16 Tryz.underlying59 hj0 jz0 jz1 jz2 rfl (by decide) lv ks.length (strs ks) rfl (World.ownsRow.alloc (unhide HLV) _) ⟨wr.heap.size, 0, none⟩ 1 1 [.string ⟨tb.toArray⟩] rfl rfl (World.news_of_block (cs := #[.string ⟨tb.toArray⟩]) (t := 9) (fr := (0, 0)) (heap_alloc_new wr _)) (by simp [Value.oneCell']) (by decide) (by unfold maxLen; omega) (by omega) (by simp; omega) (wr.heap.size + 1) (by simp) ?_; intro g cap w6 hown3 hgrow hat3 hlt3; have HOWN3 := hide hown3; have HGROW := hide hgrow; clear hown3 hgrow hat3)
     have hb6 : Below w.heap.size w w6 := by
      have hg := unhide HGROW
      refine (unhide HBL).trans ⟨hg.os, hg.tape, hg.output, Nat.le_trans (by simp) hg.size, fun j hj => ?_⟩
      refine (hg.block j (by simp; omega) ?_).trans (Below.heap_alloc wr _ j (by omega))
      intro h
      have := (owns_lt (unhide HLV) j h.symm).2
      omega
     have hown4 : w6.ownsRow w.heap.size 9 1 (.slice (some ⟨g, 0, none⟩) (ks.length + 1) cap) (ks ++ [tb]).length (strs (ks ++ [tb])) := by
      have e : strs (ks ++ [tb]) = strs ks ++ [.string ⟨tb.toArray⟩] := by simp [strs]
      rw [e, List.length_append, List.length_singleton]
      exact unhide HOWN3
     go_ret2
     exact ⟨by rw [unhide HF2]; exact ⟨_, rfl, tokR_own hown4⟩, hb6⟩
    | cons d l' =>
     have e1 := hat.lt
     have hb : t[k]'e1 = d := hat.byte
     by_cases h47 : d = 47
     ·subst h47
      clear hlv htv hat htk hne hbl hln
      go_wp2_with (at_builtin; refine wpList_append_lies _ rfl _ _ _ rfl w.heap.size 9 j0 _ 1 16 Tryz.underlying59 hj0 jz0 jz1 jz2 rfl (by decide) lv ks.length (strs ks) rfl (World.ownsRow.alloc (unhide HLV) _) ⟨wr.heap.size, 0, none⟩ 1 1 [.string ⟨tb.toArray⟩] rfl rfl (World.news_of_block (cs := #[.string ⟨tb.toArray⟩]) (t := 9) (fr := (0, 0)) (heap_alloc_new wr _)) (by simp [Value.oneCell']) (by decide) (by unfold maxLen; omega) (by omega) (by simp; omega) (wr.heap.size + 1) (by simp) ?_; intro g cap w6 hown3 hgrow hat3 hlt3; have HOWN3 := hide hown3; have HGROW := hide hgrow; clear hown3 hgrow hat3)
      exact ⟨⟨k + 1, _, _, rfl, rfl, by go_num, TkI.slash (unhide HAT) (unhide HTK) (unhide HLV) hkl (unhide HBL) (unhide HOWN3) (unhide HGROW)⟩, by simp only [intOf]; omega⟩
     ·have f47 : ((d.toNat : Int) == 47) = false := by
       rw [beq_eq_false_iff_ne]; intro h; exact h47 (UInt8.toNat_inj.1 (show d.toNat = 47 by omega))
      by_cases h126 : d = 126
      ·subst h126
       cases l' with
       | nil =>
        have e2 : ¬ (k : Int) + 1 < (t.size : Int) := by simp at hln; omega
        have HF2 := hide (show R = none by rw [unhide HF, htk]; rfl)
        clear hlv htv hat htk hne hbl hln h47
        go_wp2_with (fail)
        go_ret2
        exact ⟨by rw [unhide HF2]; rfl, unhide HBL⟩
       | cons x q =>
        have e2 := hat.next.lt
        have hb2 : t[k + 1]'e2 = x := hat.next.byte
        have e3 : (k : Int) + 1 < (t.size : Int) := by omega
        by_cases hx0 : x = 48
        ·subst hx0
         clear hlv htv hat htk hne hbl hln h47
         go_wp2_with (at_builtin; refine wpList_append_lies _ rfl _ _ _ rfl w.heap.size 5 i0 _ 1 1 Tryz.underlying117 hi0 hz0 hz1 hz2 rfl (by decide) tv tb.length (u8s tb) rfl (World.ownsRow.alloc (unhide HTV) _) ⟨wr.heap.size, 0, none⟩ 1 1 [.int .u8 126] rfl rfl (World.news_of_block (cs := #[.int .u8 126]) (t := 5) (fr := (0, 0)) (heap_alloc_new wr _)) (by simp [Value.oneCell']) (by decide) (by unfold maxLen; omega) (by omega) (by simp; omega) (wr.heap.size + 1) (by simp) ?_; intro g cap w6 hown3 hgrow hat3 hlt3; have HOWN3 := hide hown3; have HGROW := hide hgrow; have HAT3 := hide hat3; clear hown3 hgrow hat3)
         have hat2 : AtL t (k + 2) q := (unhide HAT).next.next
         have hI2 := TkI.byte (x := 126) (n := 2) hat2 (by omega) ((unhide HTK).trans (by rw [Sp.tkz_eq, if_neg (by decide), if_pos rfl]; rfl)) (unhide HLV) (unhide HTV) (unhide HNE) hkl (unhide HBL) (unhide HOWN3) (unhide HGROW) (unhide HAT3)
         exact ⟨⟨k + 2, _, _, rfl, rfl, by go_num, hI2⟩, by simp only [intOf]; omega⟩
        ·have g48 : ((x.toNat : Int) == 48) = false := by
          rw [beq_eq_false_iff_ne]; intro h; exact hx0 (UInt8.toNat_inj.1 (show x.toNat = 48 by omega))
         by_cases hx1 : x = 49
         ·subst hx1
          clear hlv htv hat htk hne hbl hln h47 hx0
          go_wp2_with (at_builtin; refine wpList_append_lies _ rfl _ _ _ rfl w.heap.size 5 i0 _ 1 1 Tryz.underlying117 hi0 hz0 hz1 hz2 rfl (by decide) tv tb.length (u8s tb) rfl (World.ownsRow.alloc (unhide HTV) _) ⟨wr.heap.size, 0, none⟩ 1 1 [.int .u8 47] rfl rfl (World.news_of_block (cs := #[.int .u8 47]) (t := 5) (fr := (0, 0)) (heap_alloc_new wr _)) (by simp [Value.oneCell']) (by decide) (by unfold maxLen; omega) (by omega) (by simp; omega) (wr.heap.size + 1) (by simp) ?_; intro g cap w6 hown3 hgrow hat3 hlt3; have HOWN3 := hide hown3; have HGROW := hide hgrow; have HAT3 := hide hat3; clear hown3 hgrow hat3)
          have hat2 : AtL t (k + 2) q := (unhide HAT).next.next
          have hI2 := TkI.byte (x := 47) (n := 2) hat2 (by omega) ((unhide HTK).trans (by rw [Sp.tkz_eq, if_neg (by decide), if_pos rfl]; rfl)) (unhide HLV) (unhide HTV) (unhide HNE) hkl (unhide HBL) (unhide HOWN3) (unhide HGROW) (unhide HAT3)
          exact ⟨⟨k + 2, _, _, rfl, rfl, by go_num, hI2⟩, by simp only [intOf]; omega⟩
         ·have g49 : ((x.toNat : Int) == 49) = false := by
           rw [beq_eq_false_iff_ne]; intro h; exact hx1 (UInt8.toNat_inj.1 (show x.toNat = 49 by omega))
          have HF2 := hide (show R = none by
           rw [unhide HF, htk, Sp.tkz_eq, if_neg (by decide), if_pos rfl]
           split
           ·rename_i e; injection e with e _; exact absurd e hx0
           ·rename_i e; injection e with e _; exact absurd e hx1
           ·rfl)
          clear hlv htv hat htk hne hbl hln h47 hx0 hx1
          go_wp2_with (fail)
          go_ret2
          exact ⟨by rw [unhide HF2]; rfl, unhide HBL⟩
      ·have f126 : ((d.toNat : Int) == 126) = false := by
        rw [beq_eq_false_iff_ne]; intro h; exact h126 (UInt8.toNat_inj.1 (show d.toNat = 126 by omega))
       have HTK2 := hide ((unhide HTK).trans (show _ = (Sp.tkz (tb ++ [d]) l').map (ks ++ ·) by rw [Sp.tkz_eq, if_neg h47, if_neg h126]))
       have HAT2 := hide (unhide HAT).next
       clear hlv htv hat htk hne hbl hln h47 h126
       go_wp2_with (at_builtin; refine wpList_append_lies _ rfl _ _ _ rfl w.heap.size 5 i0 _ 1 1 Tryz.underlying117 hi0 hz0 hz1 hz2 rfl (by decide) tv tb.length (u8s tb) rfl (World.ownsRow.alloc (unhide HTV) _) ⟨wr.heap.size, 0, none⟩ 1 1 [.int .u8 (d.toNat : Nat)] rfl rfl (World.news_of_block (cs := #[.int .u8 (d.toNat : Nat)]) (t := 5) (fr := (0, 0)) (heap_alloc_new wr _)) (by simp [Value.oneCell']) (by decide) (by unfold maxLen; omega) (by omega) (by simp; omega) (wr.heap.size + 1) (by simp) ?_; intro g cap w6 hown3 hgrow hat3 hlt3; have HOWN3 := hide hown3; have HGROW := hide hgrow; have HAT3 := hide hat3; clear hown3 hgrow hat3)
       have hI2 := TkI.byte (x := d) (n := 1) (unhide HAT2) (by omega) (unhide HTK2) (unhide HLV) (unhide HTV) (unhide HNE) hkl (unhide HBL) (unhide HOWN3) (unhide HGROW) (unhide HAT3)
       exact ⟨⟨k + 1, _, _, rfl, rfl, by go_num, hI2⟩, by simp only [intOf]; omega⟩
  ·have HF := hide (show R = none by rw [unhide HR, if_pos hu, if_neg h47])
   have f47 : ((c.toNat : Int) == 47) = false := by
    rw [beq_eq_false_iff_ne]; intro h; exact h47 (UInt8.toNat_inj.1 (show c.toNat = 47 by omega))
   clear hu HR
   go_wp2_with (fail)
   go_ret2
   exact ⟨by rw [unhide HF]; rfl, unhide HB⟩
end Go.Proofs.YtdpomdelmdofmaaGreatDoor

namespace Go.Proofs.YtdpomdelmdofmaaGreatDoor
open Go.RowKit
def Sp.ixI (t : Sp.By) : Int := match Sp.idx t with
 | none => -1
 | some i => min (i : Int) 1000000000
theorem dgs_isD (c : UInt8) : Sp.dgs.contains c = Sp.isD c := by
 rw [Bool.eq_iff_iff]
 constructor
 ·intro h
  rw [isD_iff]
  exact Sp.dgs_iff c h
 ·intro h
  rw [isD_iff] at h
  have hb : ∀ n : Fin 256, 48 ≤ n.val ∧ n.val ≤ 57 → Sp.dgs.contains (UInt8.ofNat n.val) = true := by decide +kernel
  have := hb ⟨c.toNat, c.toNat_lt⟩ h
  simpa using this
theorem ixI_none {t : Sp.By} (h : Sp.idx t = none) : Sp.ixI t = -1 := by unfold Sp.ixI; rw [h]
theorem ixI_some {t : Sp.By} (h : ¬ (t = [] ∨ (1 < t.length ∧ t[0]? = some 48) ∨ t.all (Sp.dgs.contains ·) = false)) : Sp.ixI t = Sp.grt t 0 := by
 unfold Sp.ixI
 rw [Sp.idx_some h]
 have hd : t.all (Sp.dgs.contains ·) = true := by
  cases e : t.all (Sp.dgs.contains ·)
  ·exact absurd (Or.inr (Or.inr e)) h
  ·rfl
 rw [grt_ixf t hd 0 0 (by omega)]
 simp only
 omega
set_option maxHeartbeats 4000000 in
theorem rIndex_nil (w : World) : Calls Tryz.prog 96 #[.string ⟨#[]⟩] w fun e w' => e = .returned (.int .i64 (-1)) ∧ Below w.heap.size w w' := by
 go_enter Tryz.func96, Tryz.ntmps96
 go_wp2_with (fail)
 go_ret
 exact ⟨rfl, Below.refl _ _⟩
theorem all_drop (d : UInt8) (l' : Sp.By) : (d :: l').all (Sp.dgs.contains ·) = (Sp.isD d && l'.all (Sp.dgs.contains ·)) := by
 rw [List.all_cons, dgs_isD]
set_option maxRecDepth 100000 in
set_option maxHeartbeats 8000000 in
theorem rIndex_go {X : ByteArray} {l : Sp.By} (ha : AtL X 0 l) (hne : l ≠ []) (h0 : ¬ (1 < l.length ∧ l[0]? = some 48)) (w : World) : Calls Tryz.prog 96 #[.string X] w fun e w' => e = .returned (.int .i64 (Sp.ixI l)) ∧ Below w.heap.size w w' := by
 cases l with
 | nil => exact absurd rfl hne
 | cons c r =>
  have hdl : X.data.toList = c :: r := by simpa using ha.eq
  have hE := emp_f (X := X) (k := r.length) (by have := ha.len; simp at this; omega)
  have hlt := ha.lt
  have hby : X[0]'hlt = c := ha.byte
  have hsm := ha.small
  have hG := hide (fun (hd : ∀ c ∈ X.data.toList, Sp.isD c = true) => rGreat_anyL X hsm hd w)
  obtain ⟨R, hR⟩ : ∃ R, R = Sp.ixI (c :: r) := ⟨_, rfl⟩
  have HYES := hide (show (c :: r).all (Sp.dgs.contains ·) = true → R = Sp.grt X.data.toList 0 ∧ ∀ c ∈ X.data.toList, Sp.isD c = true from fun h => by
   refine ⟨?_, ?_⟩
   ·rw [hR, ixI_some (by rintro (h1 | h1 | h1); · exact hne h1
               ·exact h0 h1
               ·rw [h] at h1; cases h1), hdl]
   ·intro d hd
    rw [hdl] at hd
    rw [← dgs_isD]
    exact List.all_eq_true.1 h d hd)
  have HNO := hide (show (c :: r).all (Sp.dgs.contains ·) = false → R = -1 from fun h => by rw [hR, ixI_none (Sp.idx_none (Or.inr (Or.inr h)))])
  have HA := hide ha
  rw [← hR]
  clear ha hne hR
  have hrest : ∀ (f48 : Bool) (hf : ((X[0].toNat : Int) == 48) = f48) (hz : f48 = true → X = ⟨#[48]⟩), Calls Tryz.prog 96 #[.string X] w fun e w' => e = .returned (.int .i64 R) ∧ Below w.heap.size w w' := by
   intro f48 hf hz
   cases f48 with
   | true =>
    obtain rfl := hz rfl
    have hR0 := unhide HYES (by
     have : (c :: r) = [48] := by rw [← hdl]
     rw [this]; decide)
    have HG := hide ((unhide hG) hR0.2)
    have HR0 := hide hR0.1
    clear hf hz hE hby hdl hG hR0 HYES HNO HA h0
    go_enter Tryz.func96, Tryz.ntmps96
    go_wp2_with (fail)
    refine wp_loop_rounds 2 ?_
    rw [rounds_succ]
    go_wp2_with (fail)
    rw [rounds_succ]
    go_wp2_with (fail)
    refine (unhide HG).mono ?_
    rintro e w2 ⟨rfl, rfl⟩
    go_wp2_with (fail)
    go_ret
    exact ⟨by rw [unhide HR0]; rfl, Below.refl _ _⟩
   | false =>
    clear hz h0 hdl hby
    go_enter Tryz.func96, Tryz.ntmps96
    go_wp2_with (fail)
    clear hf hE
    go_loopw [3] (fun i wr => ∃ (k : Nat) (l' : Sp.By), i = .int .i64 k ∧ Hid (AtL X k l') ∧ Hid ((c :: r).all (Sp.dgs.contains ·) = l'.all (Sp.dgs.contains ·)) ∧ wr = w) (fun i _ => X.size - (intOf i).toNat)
    case atStart => exact ⟨0, c :: r, rfl, HA, rfl, rfl⟩
    case round =>
     obtain ⟨k, l', rfl, HK, HAL, rfl⟩ := hrel
     cases l' with
     | nil =>
      have e1 : ¬ k < X.size := by have := (unhide HK).nil; omega
      have hy := unhide HYES (by rw [unhide HAL]; rfl)
      have HG := hide ((unhide hG) hy.2)
      have HR0 := hide hy.1
      clear hG hy
      go_wp2_with (fail)
      refine (unhide HG).mono ?_
      rintro e w2 ⟨rfl, rfl⟩
      go_wp2_with (fail)
      go_ret
      exact ⟨by rw [unhide HR0]; rfl, Below.refl _ _⟩
     | cons d l' =>
      have e1 := (unhide HK).lt
      have hb : X[k]'e1 = d := (unhide HK).byte
      have HNX := hide (unhide HK).next
      have hall := all_drop d l'
      cases hd : Sp.isD d with
      | true =>
       rw [hd, Bool.true_and] at hall
       have HAL2 := hide ((unhide HAL).trans hall)
       have hd2 := (isD_iff d).1 hd
       rw [← hb] at hd2
       have f1 : decide ((X[k].toNat : Int) < 48) = false := decide_eq_false (by omega)
       have f2 : decide ((57 : Int) < (X[k].toNat : Int)) = false := decide_eq_false (by omega)
       clear hd hall hb hd2
       go_wp2_with (fail)
       exact ⟨⟨k + 1, l', by go_num, HNX, HAL2, trivial⟩, by simp only [intOf]; omega⟩
      | false =>
       rw [hd, Bool.false_and] at hall
       have HF := hide (unhide HNO ((unhide HAL).trans hall))
       have hd2 : ¬ (48 ≤ d.toNat ∧ d.toNat ≤ 57) := fun h => by rw [(isD_iff d).2 h] at hd; cases hd
       rw [← hb] at hd2
       clear hd hall hb
       by_cases g1 : X[k].toNat < 48
       ·have f1 : decide ((X[k].toNat : Int) < 48) = true := decide_eq_true (by omega)
        clear g1 hd2
        go_wp2_with (fail)
        go_ret
        exact ⟨by rw [unhide HF]; rfl, Below.refl _ _⟩
       ·have f1 : decide ((X[k].toNat : Int) < 48) = false := decide_eq_false (by omega)
        have f2 : decide ((57 : Int) < (X[k].toNat : Int)) = true := decide_eq_true (by omega)
        clear g1 hd2
        go_wp2_with (fail)
        go_ret
        exact ⟨by rw [unhide HF]; rfl, Below.refl _ _⟩
  by_cases h48 : c = 48
  ·refine hrest true (by rw [hby, h48]; rfl) fun _ => ?_
   have hr : r = [] := by
    cases r with
    | nil => rfl
    | cons b q => exact absurd ⟨by simp, by rw [h48]; rfl⟩ h0
   subst hr; subst h48
   exact ba_of hdl
  ·exact hrest false (by rw [hby, beq_eq_false_iff_ne]; intro h; exact h48 (UInt8.toNat_inj.1 (show c.toNat = 48 by omega))) (fun h => by cases h)
theorem rIndex_any (t : Sp.By) (hn : t.length ≤ 1048576) (w : World) : Calls Tryz.prog 96 #[.string ⟨t.toArray⟩] w fun e w' => e = .returned (.int .i64 (Sp.ixI t)) ∧ Below w.heap.size w w' := by
 match t, hn with
 | [], _ => exact rIndex_nil w
 | [c], hn => exact rIndex_go (l := [c]) ⟨by rw [bs_size]; exact hn, by simp, by simp⟩ (by simp) (by simp) w
 | c :: b :: q, hn =>
  by_cases h48 : c = 48
  ·subst h48
   have e : Sp.ixI (48 :: b :: q) = -1 := ixI_none (Sp.idx_none (Or.inr (Or.inl ⟨by simp, rfl⟩)))
   rw [e]
   go_enter Tryz.func96, Tryz.ntmps96
   go_wp2_with (fail)
   go_ret
   exact ⟨rfl, Below.refl _ _⟩
  ·exact rIndex_go (l := c :: b :: q) ⟨by rw [bs_size]; exact hn, by simp, by simp⟩ (by simp) (by rintro ⟨_, h⟩; simp at h; exact h48 h) w
end Go.Proofs.YtdpomdelmdofmaaGreatDoor

namespace Go.Proofs.YtdpomdelmdofmaaGreatDoor
open Go.RowKit
def oEnd (F : Nat → Prop) (f n : Nat) (o : Except Nat Sp.O) (e : Ending) (w' : World) : Prop := match o with
 | .ok y => ∃ u f', e = .returned (.tuple #[u, .int .i64 0]) ∧ f' + n = f ∧ ORep f' F w' u y
 | .error c => e = .returned (.tuple #[.pointer none, .int .i64 c])
set_option maxHeartbeats 4000000 in
theorem rGet_none {w : World} {b : Nat} {kd : Sp.By} {ng : Bool} {ds : Sp.By} {x : Int} {s : Sp.By} {sl : Value} (h : OB w b kd ng ds x s nilS sl) (key : ByteArray) :
  Calls Tryz.prog 95 #[.pointer (some ⟨b, 0, none⟩), .string key] w fun e w' => e = .returned (.pointer none) ∧ w' = w := by
 have c5 := h.c5
 clear h
 go_enter Tryz.func95, Tryz.ntmps95
 go_wp2_with (fail)
 refine wp_loop_rounds 1 ?_
 rw [rounds_succ]
 go_wp2_with (fail)
 go_ret
 exact ⟨rfl, rfl⟩
theorem fst_mem {P : Value → Sp.O → Prop} {k : Sp.By} : ∀ {es : Sp.Ms} {ps : List Value}, Al P ps (es.map (·.2)) → (∃ y, Sp.mem k es = some y ∧ P (Sp.fstK k (es.map (·.1)) ps) y) ∨ (Sp.mem k es = none ∧ Sp.fstK k (es.map (·.1)) ps = .pointer none)
 | [], [], _ => Or.inr ⟨rfl, rfl⟩
 | p :: r, u :: q, ⟨h1, h2⟩ => by
  unfold Sp.mem
  simp only [List.map_cons, Sp.fstK]
  by_cases e : p.1 = k
  ·rw [if_pos e, if_pos e]; exact Or.inl ⟨_, rfl, h1⟩
  ·rw [if_neg e, if_neg e]; exact fst_mem h2
theorem TokR.open {w : World} {lv : Value} {t : Sp.By} {r : List Sp.By} (h : TokR w lv (t :: r)) : ∃ g off cap n tl, lv = .slice (some ⟨g, off, none⟩) (n + 1) cap ∧ n = r.length ∧ n + 1 ≤ cap ∧ cap ≤ maxLen ∧ w.cell? ⟨g, off, none⟩ = some (.string ⟨t.toArray⟩) ∧
  TokR w tl r ∧ ((cap = 1 ∧ n = 0 ∧ tl = .slice (some ⟨g, off, none⟩) 0 0) ∨ (1 < cap ∧ tl = .slice (some ⟨g, off + 1, none⟩) n (cap - 1))) := by
 rcases h with ⟨h, _⟩ | ⟨_, g, off, cap, rfl, h1, h2, hg, hc⟩
 ·cases h
 ·simp only [List.length_cons] at h1
  have h0c : w.cell? ⟨g, off, none⟩ = some (.string ⟨t.toArray⟩) := hc 0 (by simp)
  by_cases hc1 : cap = 1
  ·subst hc1
   obtain rfl : r = [] := List.eq_nil_of_length_eq_zero (by omega)
   exact ⟨g, off, 1, 0, _, rfl, rfl, h1, h2, h0c, Or.inl ⟨rfl, _, _, rfl⟩, Or.inl ⟨rfl, rfl, rfl⟩⟩
  ·refine ⟨g, off, cap, r.length, _, rfl, rfl, h1, h2, h0c, ?_, Or.inr ⟨by omega, rfl⟩⟩
   by_cases h0 : r.length = 0
   ·obtain rfl : r = [] := List.eq_nil_of_length_eq_zero h0
    exact Or.inl ⟨rfl, _, _, rfl⟩
   ·refine Or.inr ⟨by omega, g, off + 1, cap - 1, rfl, by omega, by omega, hg, fun k hk => ?_⟩
    have := hc (k + 1) (by simp; omega)
    rw [show off + 1 + k = off + (k + 1) by omega]
    simpa using this
theorem joinR_ge : ∀ (l : List Sp.By), l.length ≤ (Sp.joinR l).length
 | [] => Nat.le_refl _
 | x :: r => by
  have := joinR_ge r
  simp only [Sp.joinR, List.length_cons, List.length_append]; omega
theorem arr_few (f : Nat) (es : List Sp.O) : es.length ≤ (Sp.can (f + 1) (Sp.nrm (f + 1) (Sp.oArr es))).length := by
 have e : Sp.nrm (f + 1) (Sp.oArr es) = Sp.vArr (es.map (Sp.nrm f)) := rfl
 rw [e, Sp.can_arr]
 cases es with
 | nil => simp
 | cons a r =>
  have := joinR_ge ((r.map (Sp.nrm f)).map (Sp.can f))
  simp only [List.map_cons, Sp.joinC, List.length_cons, List.length_append, List.length_map] at this ⊢
  omega
theorem arr_sub {f : Nat} {es : List Sp.O} {e : Sp.O} (h : e ∈ es) : (Sp.can f (Sp.nrm f e)).length ≤ (Sp.can (f + 1) (Sp.nrm (f + 1) (Sp.oArr es))).length := by
 have e1 : Sp.nrm (f + 1) (Sp.oArr es) = Sp.vArr (es.map (Sp.nrm f)) := rfl
 rw [e1, Sp.can_arr]
 have := joinC_mem (List.mem_map_of_mem (f := Sp.can f) (List.mem_map_of_mem (f := Sp.nrm f) h))
 simp only [List.length_cons, List.length_append]
 omega
theorem obj_sub {f : Nat} {es : Sp.Ms} (hnd : (es.map (·.1)).Nodup) {p : Sp.By × Sp.O} (h : p ∈ es) : (Sp.can f (Sp.nrm f p.2)).length ≤ (Sp.can (f + 1) (Sp.nrm (f + 1) (Sp.oObj es))).length := by
 obtain ⟨E, e1, e2, e3⟩ := obj_form f es hnd
 rw [e1, Sp.can_obj]
 have hk : p.1 ∈ (Sp.keys E).mergeSort fun x y => decide (x ≤ y) := (List.mergeSort_perm _ _).mem_iff.2 (e2.mem_iff.2 (List.mem_map.2 ⟨p, h, rfl⟩))
 have := joinC_mem (List.mem_map_of_mem (f := fun k => Sp.quoT k ++ 58 :: Sp.can f (Sp.look E k)) hk)
 simp only [e3 p h, List.length_cons, List.length_append] at this ⊢
 omega
section
variable {w : World} {b : Nat} {F : Nat → Prop} {t : Sp.By} {r : List Sp.By} {lv : Value}
set_option maxHeartbeats 4000000 in
theorem find_leaf {kd : Sp.By} {ng : Bool} {ds : Sp.By} {x : Int} {s : Sp.By} (h : OB w b kd ng ds x s nilS nilS) (hk : (kd == [97, 114, 114, 97, 121]) = false) (hl : TokR w lv (t :: r)) :
  Calls Tryz.prog 69 #[.pointer (some ⟨b, 0, none⟩), lv] w fun e w' => e = .returned (.tuple #[.pointer none, .int .i64 11]) ∧ Below w.heap.size w w' := by
 obtain ⟨g, off, cap, n, tl, rfl, _, _, _, hc, _, _⟩ := hl.open
 have c0 := h.c0
 have HG := hide (rGet_none h ⟨t.toArray⟩)
 clear h hl
 have e1 : ((n : Int) + 1 == 0) = false := by rw [beq_eq_false_iff_ne]; omega
 go_enter Tryz.func69, Tryz.ntmps69
 go_wp2_with (fail)
 refine (unhide HG).mono ?_
 rintro e w2 ⟨rfl, rfl⟩
 go_wp2_with (fail)
 go_ret2
 exact ⟨rfl, Below.refl _ _⟩
def FindOk (F : Nat → Prop) (r : List Sp.By) : Prop := ∀ (f : Nat) (o : Sp.O) (w : World) (v lv : Value), ORep f F w v o → Sp.goO f o → (Sp.can f (Sp.nrm f o)).length ≤ 80000 → TokR w lv r →
 Calls Tryz.prog 69 #[v, lv] w fun e w' => oEnd F f r.length (Sp.ofind o r) e w' ∧ Below w.heap.size w w'
theorem oEnd.down {f n : Nat} {o : Except Nat Sp.O} {e : Ending} {w' : World} (h : oEnd F f n o e w') : oEnd F (f + 1) (n + 1) o e w' := by
 cases o with
 | ok y => obtain ⟨u, f', h1, h2, h3⟩ := h; exact ⟨u, f', h1, by omega, h3⟩
 | error c => exact h
theorem oEnd.form {f n : Nat} {o : Except Nat Sp.O} {e : Ending} {w' : World} (h : oEnd F f n o e w') : ∃ (u : Value) (c : Nat), e = .returned (.tuple #[u, .int .i64 c]) := by
 cases o with
 | ok y => obtain ⟨u, f', h1, _⟩ := h; exact ⟨u, 0, h1⟩
 | error c => exact ⟨_, c, h⟩
set_option maxRecDepth 100000 in
set_option maxHeartbeats 800000 in
theorem find_arr {f : Nat} {sl : Value} {ps : List Value} {es : List Sp.O} (hr : FindOk F r) (h : OB w b Sp.kdA false [] 0 [] nilS sl) (ho : w.ownsRow 0 66 1 sl ps.length ps) (hal : Al (ORep f F w) ps es) (hgo : ∀ e ∈ es, Sp.goO f e) (hl : TokR w lv (t :: r)) (ht : t.length ≤ 1048576) (hcl : (Sp.can (f + 1) (Sp.nrm (f + 1) (Sp.oArr es))).length ≤ 80000) :
  Calls Tryz.prog 69 #[.pointer (some ⟨b, 0, none⟩), lv] w fun e w' => oEnd F (f + 1) (t :: r).length (Sp.ofind (Sp.oArr es) (t :: r)) e w' ∧ Below w.heap.size w w' := by
 obtain ⟨g, off, cap, n, tl, rfl, hn, hcap, hmx, hc, htl, htc⟩ := hl.open
 clear hn
 have c0 := h.c0
 have c6 := h.c6
 rw [show Sp.kdA = [97, 114, 114, 97, 121] from rfl] at c0
 have HG := hide (rGet_none h ⟨t.toArray⟩)
 have HI := hide (fun w => rIndex_any t ht w)
 have hall := hal.length
 have hes : es.length ≤ 80000 := Nat.le_trans (arr_few f es) hcl
 have HCL := hide hcl
 clear hcl
 have e1 : ((n : Int) + 1 == 0) = false := by rw [beq_eq_false_iff_ne]; omega
 obtain ⟨R, hR⟩ : ∃ R, R = Sp.ofind (Sp.oArr es) (t :: r) := ⟨_, rfl⟩
 rw [← hR]
 have hR0 : R = match Sp.ochild (Sp.oArr es) t with | .ok e => Sp.ofind e r | .error c => .error c := hR
 unfold Sp.ochild Sp.oArr at hR0
 simp only at hR0
 have hcb : (cap : Int) ≤ 9223372036854775807 := by unfold maxLen at hmx; omega
 have hcc : (n : Int) + 1 ≤ (cap : Int) := by omega
 cases hx : Sp.idx t with
 | none =>
  rw [hx] at hR0
  have HF := hide (show R = .error 12 from hR0)
  have hix : Sp.ixI t = -1 := ixI_none hx
  rw [hix] at HI
  clear h ho hal hgo hl htl hR hR0 hx hall hr
  go_enter Tryz.func69, Tryz.ntmps69
  go_wp2_with (fail)
  refine (unhide HG).mono ?_
  rintro e w2 ⟨rfl, rfl⟩
  go_wp2_with (fail)
  refine ((unhide HI) _).mono ?_
  rintro e w2 ⟨rfl, hb2⟩
  go_wp2_with (fail)
  go_ret2
  exact ⟨by rw [unhide HF]; rfl, hb2⟩
 | some i =>
  rw [hx] at hR0
  have hix : Sp.ixI t = min (i : Int) 1000000000 := by unfold Sp.ixI; rw [hx]
  obtain ⟨N, hN⟩ : ∃ N, N = ps.length := ⟨_, rfl⟩
  by_cases hin : i < ps.length
  ·obtain ⟨g2, cap2, rfl, a1, a2, a3, hc2⟩ := owns_cell1 ho (by omega)
   have hin2 : i < es.length := by omega
   simp only [List.getElem?_eq_getElem hin2] at hR0
   have hix2 : Sp.ixI t = (i : Int) := by rw [hix]; omega
   rw [hix2] at HI
   have hci := hc2 i hin
   have hrep := hal.get i hin hin2
   obtain ⟨bb, hbb, _⟩ := hrep.ptr
   have HGO := hide (And.intro (hgo _ (List.getElem_mem hin2)) (Nat.le_trans (arr_sub (List.getElem_mem hin2)) (unhide HCL)))
   have HREP := hide hrep
   rw [← hN] at c6 a1
   have hlt : (i : Int) < (N : Int) := by omega
   have hNb : (N : Int) ≤ 9223372036854775807 := by unfold maxLen at a2; omega
   have HC6 := hide c6
   have HCI := hide hci
   have HTL := hide htl
   have hbl := h.lt
   have HF := hide hR0
   generalize ps[i] = pv at *
   generalize es[i] = ev at *
   subst hbb
   have e0 : ¬ (i : Int) < 0 := by omega
   have hrr := hide (fun w (h1 : ORep f F w (.pointer (some ⟨bb, 0, none⟩)) ev) (h2 : TokR w tl r) => hr f ev w _ tl h1 (unhide HGO).1 (unhide HGO).2 h2)
   clear h ho hal hgo hl htl hR hR0 hx hall hr hix hix2 hrep hc2 c6 hci hin hin2 hN
   rcases htc with ⟨rfl, rfl, rfl⟩ | ⟨hc1, rfl⟩
   all_goals (
    go_enter Tryz.func69, Tryz.ntmps69
    go_wp2_with (fail)
    refine (unhide HG).mono ?_
    rintro e w2 ⟨rfl, rfl⟩
    go_wp2_with (fail)
    refine ((unhide HI) _).mono ?_
    rintro e w3 ⟨rfl, hb3⟩
    have d6 := (hb3.cell (p := ⟨b, 6, none⟩) hbl).trans (unhide HC6)
    have di := (hb3.cell (p := ⟨g2, i, none⟩) a3).trans (unhide HCI)
    have HB3 := hide hb3
    clear hb3 hc
    go_wp2_with (fail)
    refine ((unhide hrr) _ ((unhide HREP).below (unhide HB3)) ((unhide HTL).bel (unhide HB3))).mono ?_
    rintro e w4 ⟨ho, hb4⟩
    obtain ⟨u, c, rfl⟩ := ho.form
    have HO := hide ho.down
    have HB4 := hide ((unhide HB3).trans (hb4.mono (unhide HB3).size))
    clear ho hb4
    go_wp2_with (fail)
    go_ret2
    exact ⟨by rw [unhide HF]; exact unhide HO, unhide HB4⟩)
  ·have hin2 : ¬ i < es.length := by omega
   simp only [List.getElem?_eq_none (Nat.le_of_not_lt hin2)] at hR0
   have HF := hide (show R = .error 11 from hR0)
   obtain ⟨a, cp, rfl⟩ : ∃ a cp, sl = .slice a ps.length cp := by
    rcases ho.2 with ⟨e, h0⟩ | ⟨g2, cap2, cur, e, _⟩
    ·exact ⟨none, 0, by rw [e, h0]⟩
    ·exact ⟨_, cap2, e⟩
   rw [← hN] at c6
   have hNe : N = es.length := by omega
   have hlt : ¬ Sp.ixI t < (N : Int) := by rw [hix]; omega
   have hge : ¬ Sp.ixI t < 0 := by rw [hix]; omega
   have HC6 := hide c6
   have hbl := h.lt
   generalize Sp.ixI t = ix at *
   clear h ho hal hgo hl htl hR hR0 hx hall hr hix c6 hin hin2 hNe hN
   go_enter Tryz.func69, Tryz.ntmps69
   go_wp2_with (fail)
   refine (unhide HG).mono ?_
   rintro e w2 ⟨rfl, rfl⟩
   go_wp2_with (fail)
   refine ((unhide HI) _).mono ?_
   rintro e w3 ⟨rfl, hb3⟩
   have d6 := (hb3.cell (p := ⟨b, 6, none⟩) hbl).trans (unhide HC6)
   have HB3 := hide hb3
   clear hb3 hc
   go_wp2_with (fail)
   go_ret2
   exact ⟨by rw [unhide HF]; rfl, unhide HB3⟩
set_option maxRecDepth 100000 in
set_option maxHeartbeats 800000 in
theorem find_obj {f : Nat} {kl sl : Value} {ps : List Value} {es : Sp.Ms} (hr : FindOk F r) (h : OB w b Sp.kdO false [] 0 [] kl sl) (hok : w.ownsRow 0 9 1 kl es.length (es.map fun p => strV p.1)) (ho : w.ownsRow 0 66 1 sl ps.length ps) (hal : Al (ORep f F w) ps (es.map (·.2))) (hnd : (es.map (·.1)).Nodup) (hgo : ∀ p ∈ es, Sp.goO f p.2) (hl : TokR w lv (t :: r)) (hcl : (Sp.can (f + 1) (Sp.nrm (f + 1) (Sp.oObj es))).length ≤ 80000) :
  Calls Tryz.prog 69 #[.pointer (some ⟨b, 0, none⟩), lv] w fun e w' => oEnd F (f + 1) (t :: r).length (Sp.ofind (Sp.oObj es) (t :: r)) e w' ∧ Below w.heap.size w w' := by
 have HCL := hide hcl
 clear hcl
 obtain ⟨g, off, cap, n, tl, rfl, hn, hcap, hmx, hc, htl, htc⟩ := hl.open
 clear hn
 have c0 := h.c0
 rw [show Sp.kdO = [111, 98, 106, 101, 99, 116] from rfl] at c0
 have hll : ps.length = es.length := by have := hal.length; simpa using this
 have HG := hide (rGet_any h (ks := es.map (·.1)) (B1 := 0) (by rw [List.length_map, List.map_map]; exact hok) ho (by simpa using hll) t)
 have e1 : ((n : Int) + 1 == 0) = false := by rw [beq_eq_false_iff_ne]; omega
 obtain ⟨R, hR⟩ : ∃ R, R = Sp.ofind (Sp.oObj es) (t :: r) := ⟨_, rfl⟩
 rw [← hR]
 have hR0 : R = match Sp.ochild (Sp.oObj es) t with | .ok e => Sp.ofind e r | .error c => .error c := hR
 rw [ochild_obj] at hR0
 have hcb : (cap : Int) ≤ 9223372036854775807 := by unfold maxLen at hmx; omega
 have hcc : (n : Int) + 1 ≤ (cap : Int) := by omega
 rcases fst_mem (k := t) hal with ⟨y, hy, hrep⟩ | ⟨hy, hu⟩
 ·rw [hy] at hR0
  have HF := hide (show R = Sp.ofind y r from hR0)
  obtain ⟨bb, hbb, _⟩ := hrep.ptr
  have HGO := hide (And.intro (hgo _ (mem_some hy)) (Nat.le_trans (obj_sub hnd (mem_some hy)) (unhide HCL)))
  have HREP := hide hrep
  have HTL := hide htl
  generalize Sp.fstK t (es.map (·.1)) ps = u0 at *
  subst hbb
  have hrr := hide (fun w (h1 : ORep f F w (.pointer (some ⟨bb, 0, none⟩)) y) (h2 : TokR w tl r) => hr f y w _ tl h1 (unhide HGO).1 (unhide HGO).2 h2)
  clear h ho hok hal hgo hl htl hR hR0 hr hrep hy hll
  rcases htc with ⟨rfl, rfl, rfl⟩ | ⟨hc1, rfl⟩
  all_goals (
   go_enter Tryz.func69, Tryz.ntmps69
   go_wp2_with (fail)
   refine (unhide HG).mono ?_
   rintro e w2 ⟨rfl, rfl⟩
   go_wp2_with (fail)
   refine ((unhide hrr) _ (unhide HREP) (unhide HTL)).mono ?_
   rintro e w4 ⟨ho, hb4⟩
   obtain ⟨u, c, rfl⟩ := ho.form
   have HO := hide ho.down
   have HB4 := hide hb4
   clear ho hb4
   go_wp2_with (fail)
   go_ret2
   exact ⟨by rw [unhide HF]; exact unhide HO, unhide HB4⟩)
 ·rw [hy] at hR0
  have HF := hide (show R = .error 11 from hR0)
  rw [hu] at HG
  clear h ho hok hal hgo hl htl hR hR0 hr hy hu hll
  go_enter Tryz.func69, Tryz.ntmps69
  go_wp2_with (fail)
  refine (unhide HG).mono ?_
  rintro e w2 ⟨rfl, rfl⟩
  go_wp2_with (fail)
  go_ret2
  exact ⟨by rw [unhide HF]; rfl, Below.refl _ _⟩
end
set_option maxHeartbeats 4000000 in
theorem find_nil {f : Nat} {F : Nat → Prop} {w : World} {v lv : Value} {o : Sp.O} (h : ORep f F w v o) (hl : TokR w lv []) : Calls Tryz.prog 69 #[v, lv] w fun e w' => oEnd F f 0 (Sp.ofind o []) e w' ∧ Below w.heap.size w w' := by
 obtain ⟨a, c, rfl⟩ : ∃ a c, lv = .slice a 0 c := by
  rcases hl with ⟨_, h⟩ | ⟨h, _⟩
  ·exact h
  ·simp at h
 have HH := hide h
 clear h hl
 go_enter Tryz.func69, Tryz.ntmps69
 go_wp2_with (fail)
 go_ret2
 exact ⟨⟨_, f, rfl, rfl, unhide HH⟩, Below.refl _ _⟩
theorem rFind_any {F : Nat → Prop} : ∀ (l : List Sp.By), (∀ t ∈ l, t.length ≤ 1048576) → FindOk F l
 | [], _ => fun f o w v lv h _ _ hl => find_nil h hl
 | t :: r, ht => fun f o w v lv h hg hc hl => by
  have hr : FindOk F r := rFind_any r fun x hx => ht x (by simp [hx])
  have ht0 := ht t (by simp)
  cases f with
  | zero => exact h.elim
  | succ f =>
   obtain ⟨b, rfl, _, h⟩ := h
   rcases h with ⟨k, hk, rfl, h⟩ | ⟨n, x, rfl, h⟩ | ⟨s, rfl, h⟩ | ⟨es, sl, ps, rfl, h, ho, _, ha⟩ | ⟨es, kl, sl, ps, rfl, h, ho, _, ho2, _, ha⟩
   ·have hw : (Sp.words.getD k [] == [97, 114, 114, 97, 121]) = false := by
     match k, hk with
     | 0, _ => rfl
     | 1, _ => rfl
     | 2, _ => rfl
    exact find_leaf h hw hl
   ·exact find_leaf h rfl hl
   ·exact find_leaf h rfl hl
   ·exact find_arr hr h ho ha (go_arr_of hg) hl ht0 hc
   ·obtain ⟨h1, h2⟩ := go_obj_of hg
    exact find_obj hr h ho ho2 ha h1 h2 hl hc
end Go.Proofs.YtdpomdelmdofmaaGreatDoor

namespace Go.Proofs.YtdpomdelmdofmaaGreatDoor
open Go.RowKit
def SRow (w : World) (g : Nat) (ps : List Sp.By) : Prop := w.heap[g]? = some (.cells (strs ps).toArray 9 (0, 0))
theorem SRow.cell {w : World} {g : Nat} {ps : List Sp.By} (h : SRow w g ps) (k : Nat) (hk : k < ps.length) : w.cell? ⟨g, k, none⟩ = some (.string ⟨ps[k].toArray⟩) := by
 simp [World.cell?, show w.heap[g]? = _ from h, strs, hk]
theorem SRow.lt {w : World} {g : Nat} {ps : List Sp.By} (h : SRow w g ps) : g < w.heap.size := (Array.getElem?_eq_some_iff.1 h).1
theorem SRow.bel {w w' : World} {g : Nat} {ps : List Sp.By} (h : SRow w g ps) (hb : Below w.heap.size w w') : SRow w' g ps := (hb.block g h.lt).trans h
theorem SRow.fz {w : World} {g : Nat} {ps : List Sp.By} (h : SRow w g ps) (k : Nat) : w.frozen? ⟨g, k, none⟩ = false := by
 simp [World.frozen?, show w.heap[g]? = _ from h]
theorem set_mid {α : Type} (v b : α) (c : List α) : ∀ a : List α, (a ++ b :: c).set a.length v = a ++ v :: c
 | [] => rfl
 | x :: a => by
  show x :: (a ++ b :: c).set a.length v = _
  rw [set_mid v b c a]; rfl
theorem SRow.set {w : World} {g : Nat} {ks rest : List Sp.By} {t s : Sp.By} (h : SRow w g ([] :: (ks ++ t :: rest))) : SRow (w.setCell ⟨g, 1 + ks.length, none⟩ (.string ⟨s.toArray⟩)) g ([] :: ((ks ++ [s]) ++ rest)) := by
 have e : (strs ([] :: (ks ++ t :: rest))).toArray.setIfInBounds (1 + ks.length) (.string ⟨s.toArray⟩) = (strs ([] :: ((ks ++ [s]) ++ rest))).toArray := by
  rw [List.setIfInBounds_toArray]
  congr 1
  unfold strs
  rw [Nat.add_comm, List.map_cons, List.set_cons_succ, List.map_cons, List.map_append, List.map_cons, List.append_assoc, List.map_append]
  congr 1
  have := set_mid (Value.string ⟨s.toArray⟩) (Value.string ⟨t.toArray⟩) (rest.map fun p => Value.string ⟨p.toArray⟩) (ks.map fun p => Value.string ⟨p.toArray⟩)
  rw [List.length_map] at this
  rw [this]; rfl
 unfold SRow
 rw [← e]
 simp only [World.setCell, Array.getElem?_modify]
 rw [if_pos trivial, show w.heap[g]? = _ from h]; rfl
theorem keysOf_step {t : Sp.By} {rest : List Sp.By} : Sp.keysOf (t :: rest) = match Sp.une t with | none => none | some k => (Sp.keysOf rest).map (k :: ·) := rfl
theorem pcs_le : ∀ (l : Sp.By), ∀ t ∈ Sp.pcs l, t.length ≤ l.length
 | [], t, h => by
  have : t = [] := by simpa [Sp.pcs] using h
  rw [this]; exact Nat.le_refl _
 | c :: r, t, h => by
  unfold Sp.pcs at h
  split at h
  ·rcases List.mem_cons.1 h with e | e
   ·rw [e]; exact Nat.zero_le _
   ·exact Nat.le_succ_of_le (pcs_le r t e)
  ·split at h
   ·rename_i p ps hp
    rcases List.mem_cons.1 h with e | e
    ·rw [e]
     exact Nat.succ_le_succ (pcs_le r p (by rw [hp]; exact List.mem_cons_self ..))
    ·exact Nat.le_succ_of_le (pcs_le r t (by rw [hp]; exact List.mem_cons_of_mem _ e))
   ·rcases List.mem_cons.1 h with e | e
    ·rw [e]; simp
    ·cases e
def ptrEnd (o : Option (List Sp.By)) (e : Ending) (w' : World) : Prop := match o with
 | some ks => ∃ v, e = .returned (.tuple #[v, .bool true]) ∧ Toks w' v ks
 | none => e = .returned (.tuple #[.slice none 0 0, .bool false])
set_option maxRecDepth 100000 in
set_option maxHeartbeats 8000000 in
theorem pRead_any {l : Sp.By} {w : World} (hn : l.length ≤ 1048576) (hT : Laid w) (hP : PTab w) (hm : Mx w) :
  Calls Tryz.prog 80 #[.string ⟨l.toArray⟩] w fun e w' => ptrEnd (Sp.toks l) e w' ∧ Below w.heap.size w w' := by
 have hv := hide (valid_any l w hn hT)
 obtain ⟨R, hR⟩ : ∃ R, R = Sp.toks l := ⟨_, rfl⟩
 rw [← hR]
 have HR := hide hR
 have HM := hide hm
 have HP := hide hP
 clear hR hm hP hT
 cases hva : Lib.validD l with
 | false =>
  have HV := hide (show R = none by rw [unhide HR]; unfold Sp.toks; rw [hva]; rfl)
  rw [hva] at hv
  clear hva
  go_enter Tryz.func80, Tryz.ntmps80
  go_wp2_with (fail)
  refine (unhide hv).mono ?_
  rintro e w1 ⟨rfl, hb1⟩
  go_wp2_with (fail)
  go_ret2
  exact ⟨by rw [unhide HV]; rfl, hb1⟩
 | true =>
  have HV := hide (show R = match Sp.pcs l with | [] :: r => Sp.keysOf r | _ => none by rw [unhide HR]; unfold Sp.toks; rw [hva]; rfl)
  rw [hva] at hv
  clear hva
  go_enter Tryz.func80, Tryz.ntmps80
  go_wp2_with (fail)
  refine (unhide hv).mono ?_
  rintro e w1 ⟨rfl, hb1⟩
  have HB1 := hide hb1
  have hsp := hide (split_any l w1 hn ((unhide HM).kept hb1))
  clear hb1 hv
  go_wp2_with (fail)
  refine (unhide hsp).mono ?_
  rintro e w2 ⟨rfl, rfl⟩
  have HN := hide (pcs_len l)
  have hcl : l.count 47 ≤ l.length := List.count_le_length
  have h0 : SRow (w1.alloc (.cells (strs (Sp.pcs l)).toArray 9)) w1.heap.size (Sp.pcs l) := by
   show (w1.heap.push _)[w1.heap.size]? = _; simp
  have hba := (unhide HB1).alloc (unhide HB1).size (.cells (strs (Sp.pcs l)).toArray 9)
  have hgs : w1.heap.size < (w1.alloc (.cells (strs (Sp.pcs l)).toArray 9)).heap.size := by simp
  have HBA := hide hba
  have hG := (unhide HB1).size
  clear hba
  have HTP := hide (pcs_le l)
  cases hpc : Sp.pcs l with
  | nil => exact absurd hpc (pcs_ne l)
  | cons t0 tks =>
   rw [hpc] at h0 HV HBA HN HTP
   have hlen : tks.length ≤ 1048576 := by have := unhide HN; simp only [List.length_cons] at this; omega
   generalize w1.alloc (.cells (strs (t0 :: tks)).toArray 9) = w2 at *
   have c0 := h0.cell 0 (by simp)
   simp only [List.getElem_cons_zero] at c0
   have H0 := hide h0
   clear hpc h0 hsp
   cases t0 with
   | cons a q =>
    have HN1 := hide (show R = none from unhide HV)
    go_wp2_with (fail)
    go_ret2
    exact ⟨by rw [unhide HN1]; rfl, unhide HBA⟩
   | nil =>
    have HV1 := hide (show R = Sp.keysOf tks from unhide HV)
    have HTL := hide (show ∀ t ∈ tks, t.length ≤ 1048576 from fun t ht => Nat.le_trans (unhide HTP t (List.mem_cons_of_mem _ ht)) hn)
    clear HV
    simp only [List.length_cons]
    by_cases h00 : tks = []
    ·have HN2 := hide (show R = some [] by rw [unhide HV1, h00]; rfl)
     subst h00
     simp only [List.length_nil]
     go_wp2_with (fail)
     refine wp_loop_rounds 1 ?_
     rw [rounds_succ]
     go_wp2_with (fail)
     go_ret2
     exact ⟨by rw [unhide HN2]; exact ⟨_, rfl, Or.inl ⟨rfl, _, _, rfl, by unfold maxLen; omega⟩⟩, unhide HBA⟩
    ·obtain ⟨N, hN⟩ : ∃ N, N = tks.length := ⟨_, rfl⟩
     have hpos : 0 < N := by rw [hN]; exact List.length_pos_iff.2 h00
     have HNN := hide hN
     rw [← hN]
     have hn1 : (N : Int) ≤ 1048576 := by omega
     have hn2 : (1 : Int) ≤ (N : Int) + 1 := by omega
     clear hN hlen HN h00
     go_wp2_with (fail)
     go_loopw [23] (fun i wr => ∃ (ks rest : List Sp.By), i = .int .i64 ks.length ∧ ks.length + rest.length = N ∧ Hid (SRow wr w1.heap.size ([] :: (ks ++ rest))) ∧ Hid (Below w.heap.size w wr) ∧ Hid (Sp.keysOf tks = (Sp.keysOf rest).map (ks ++ ·)) ∧ Hid (∀ t ∈ rest, t.length ≤ 1048576))
      (fun i _ => N - (intOf i).toNat)
     case atStart => exact ⟨[], tks, rfl, by have := unhide HNN; simp; omega, H0, HBA, by show Sp.keysOf tks = _; cases Sp.keysOf tks <;> rfl, HTL⟩
     case round =>
      obtain ⟨ks, rest, rfl, hkr, HSR, HB, HE, HT2⟩ := hrel
      cases rest with
      | nil =>
       have hkN : ks.length = N := by simpa using hkr
       have HOUT := hide (show ∀ cap, N ≤ cap → cap ≤ maxLen → ptrEnd R (.returned (.tuple #[.slice (some ⟨w1.heap.size, 1, none⟩) N cap, .bool true])) wr from fun cap hca hcm => by
        rw [unhide HV1, unhide HE]
        refine ⟨_, rfl, Or.inr ⟨_, 1, cap, ?_, ?_, hcm, (unhide HSR).lt, fun k hk => ?_⟩⟩
        ·simp [hkN]
        ·simp; omega
        ·have hk2 : k < ks.length := by simpa using hk
         have h9 := (unhide HSR).cell (1 + k) (by simp; omega)
         rw [h9]
         simp [Nat.add_comm 1 k])
       have hlt2 : ¬ ((ks.length : Nat) : Int) < (N : Int) := by omega
       go_wp2_with (fail)
       go_ret2
       exact ⟨unhide HOUT _ (by omega) (by unfold maxLen; omega), unhide HB⟩
      | cons t r =>
       have hlt2 : ((ks.length : Nat) : Int) < (N : Int) := by simp only [List.length_cons] at hkr; omega
       have c1 : wr.cell? ⟨w1.heap.size, 1 + ks.length, none⟩ = some (.string ⟨t.toArray⟩) := by
        rw [(unhide HSR).cell (1 + ks.length) (by simp; omega)]
        simp [Nat.add_comm 1 ks.length]
       have hcall := hide (unescape_any (l := t) (unhide HT2 t (by simp)) ((unhide HP).kept (unhide HB)) ((unhide HM).kept (unhide HB)))
       clear c0
       go_wp2_with (fail)
       refine (unhide hcall).mono ?_
       rintro e w3 ⟨hue, hb3⟩
       have HB3 := hide ((unhide HB).trans (hb3.mono (unhide HB).size))
       have HSR3 := hide ((unhide HSR).bel hb3)
       clear hb3 hcall c1
       cases hun : Sp.une t with
       | none =>
        rw [hun] at hue
        have hue2 : e = .returned (.tuple #[.string ⟨#[]⟩, .bool false]) := hue
        subst hue2
        have HN2 := hide (show R = none by rw [unhide HV1, unhide HE, keysOf_step, hun]; rfl)
        clear hue hun
        go_wp2_with (fail)
        go_ret2
        exact ⟨by rw [unhide HN2]; rfl, unhide HB3⟩
       | some s =>
        rw [hun] at hue
        have hue2 : e = .returned (.tuple #[.string ⟨s.toArray⟩, .bool true]) := hue
        subst hue2
        have HE3 := hide (show Sp.keysOf tks = (Sp.keysOf r).map ((ks ++ [s]) ++ ·) by
         rw [unhide HE, keysOf_step, hun]
         cases Sp.keysOf r <;> simp)
        have fz := (unhide HSR3).fz (1 + ks.length)
        have c3 : w3.cell? ⟨w1.heap.size, 1 + ks.length, none⟩ = some (.string ⟨t.toArray⟩) := by
         rw [(unhide HSR3).cell (1 + ks.length) (by simp; omega)]
         simp [Nat.add_comm 1 ks.length]
        clear hue hun
        go_wp2_with (fail)
        refine ⟨⟨ks ++ [s], r, by simp, ?_, (unhide HSR3).set, (unhide HB3).setCell (p := ⟨w1.heap.size, 1 + ks.length, none⟩) hG _, HE3, fun t' ht' => unhide HT2 t' (by simp [ht'])⟩, ?_⟩
        ·simp only [List.length_append, List.length_cons, List.length_nil] at hkr ⊢; omega
        ·simp only [List.length_cons] at hkr; simp only [intOf]; omega
end Go.Proofs.YtdpomdelmdofmaaGreatDoor
