/-
  Walk of the reference's (*Reading).object.
-/
import Derived.Test.YtdpomdelmdofmaaGreatDoorPart27
namespace Go.Proofs.YtdpomdelmdofmaaGreatDoor
open Go.RowKit
theorem rval_obj (f : Nat) (r : Sp.By) : Sp.rval (f + 1) (123 :: r) = if Sp.tk (Sp.skB r) 125 then some (Sp.oObj [], (Sp.skB r).tail) else (Sp.lst 125 (Sp.rmemb (Sp.rval f)) ((Sp.skB r).length + 1) (Sp.skB r) []).map fun x => (Sp.oObj x.2, x.1) := by
 have e : Sp.lstAll 123 125 (Sp.rmemb (Sp.rval f)) (123 :: r) [] = if Sp.tk (Sp.skB r) 125 = true then some ((Sp.skB r).tail, []) else Sp.lst 125 (Sp.rmemb (Sp.rval f)) ((Sp.skB r).length + 1) (Sp.skB r) [] := by
  unfold Sp.lstAll; rw [if_pos (by rfl)]; rfl
 rw [Sp.rval, if_pos (by simp [Sp.pk]), e]
 cases h : Sp.tk (Sp.skB r) 125 with
 | true => simp
 | false =>
  simp only [Bool.false_eq_true, if_false]
  cases Sp.lst 125 (Sp.rmemb (Sp.rval f)) ((Sp.skB r).length + 1) (Sp.skB r) [] <;> rfl
theorem rmemb_step {f n : Nat} {l l1 r k : Sp.By} {es : Sp.Ms} {d : Sp.O} {X : Option (Sp.By × Sp.Ms)} (hx : Sp.lst 125 (Sp.rmemb (Sp.rval f)) n l es = X) (hn : l.length < n) (hl : Sp.skB l = l) (hq : Sp.quo l = some (k, l1)) (h58 : Sp.tk (Sp.skB l1) 58 = true)
  (hs : Sp.rval f (Sp.skB (Sp.skB l1).tail) = some (d, r)) :
  X = if Sp.tk (Sp.skB r) 125 then some ((Sp.skB r).tail, es ++ [(k, d)]) else if Sp.tk (Sp.skB r) 44 then Sp.lst 125 (Sp.rmemb (Sp.rval f)) (n - 1) (Sp.skB (Sp.skB r).tail) (es ++ [(k, d)]) else none := by
 rw [← hx, lst_step hn hl, lst_skB]
 unfold Sp.rmemb
 rw [hq]
 simp only
 rw [if_pos h58, hs]
theorem rmemb_none {f n : Nat} {l : Sp.By} {es : Sp.Ms} {X : Option (Sp.By × Sp.Ms)} (hx : Sp.lst 125 (Sp.rmemb (Sp.rval f)) n l es = X) (hn : l.length < n) (hl : Sp.skB l = l) (hs : Sp.rmemb (Sp.rval f) l es = none) : X = none := by
 rw [← hx, lst_step hn hl, hs]
theorem rmemb_q {f : Nat} {l : Sp.By} {es : Sp.Ms} (h : Sp.quo l = none) : Sp.rmemb (Sp.rval f) l es = none := by unfold Sp.rmemb; rw [h]
theorem rmemb_c {f : Nat} {l l1 k : Sp.By} {es : Sp.Ms} (h : Sp.quo l = some (k, l1)) (h2 : Sp.tk (Sp.skB l1) 58 = false) : Sp.rmemb (Sp.rval f) l es = none := by unfold Sp.rmemb; rw [h]; simp only; rw [if_neg (by rw [h2]; decide)]
theorem rmemb_v {f : Nat} {l l1 k : Sp.By} {es : Sp.Ms} (h : Sp.quo l = some (k, l1)) (h2 : Sp.rval f (Sp.skB (Sp.skB l1).tail) = none) : Sp.rmemb (Sp.rval f) l es = none := by
 unfold Sp.rmemb; rw [h]; simp only; rw [h2]; simp
theorem quo_no {l : Sp.By} (h : Sp.tk l 34 = false) : Sp.quo l = none := by unfold Sp.quo; rw [if_neg (by rw [h]; decide)]
theorem tk_form {l : Sp.By} {c : UInt8} (h : Sp.tk l c = true) : ∃ r, l = c :: r := by
 cases l with
 | nil => cases h
 | cons a r => exact ⟨r, by rw [show a = c from by simpa [Sp.tk] using h]⟩
set_option maxRecDepth 100000 in
set_option maxHeartbeats 16000000 in
theorem oObject_ok {f : Nat} (hV : OvOk f) {R : Nat} {t : ByteArray} {mo : Int} {tw far : Bool} {p : Nat} {r : Sp.By} {w : World} (hr : RB w R t mo tw far) (ha : At t p (123 :: r)) (hmo : 0 ≤ mo ∧ mo ≤ 400) (hlf : r.length < f) :
  Calls Tryz.prog 130 #[.pointer (some ⟨R, 0, none⟩), .int .i64 p] w fun e w' => OvEnd (Sp.rval (f + 1) (123 :: r)) (f + 1) t R mo tw far w e w' := by
 obtain ⟨i0, hi0, hz0, hz1, hz2⟩ := info_parts o_ptr
 obtain ⟨i1, ji0, jz0, jz1, jz2⟩ := info_parts o_str
 obtain ⟨X, hX⟩ : ∃ X, X = Sp.lst 125 (Sp.rmemb (Sp.rval f)) ((Sp.skB r).length + 1) (Sp.skB r) [] := ⟨_, rfl⟩
 have hrv : Sp.rval (f + 1) (123 :: r) = if Sp.tk (Sp.skB r) 125 then some (Sp.oObj [], (Sp.skB r).tail) else X.map fun x => (Sp.oObj x.2, x.1) := by rw [hX]; exact rval_obj f r
 obtain ⟨w1, hw1⟩ : ∃ w1, w1 = w.alloc (.cells #[.string ⟨#[111, 98, 106, 101, 99, 116]⟩, .bool false, .string ⟨#[]⟩, .int .i64 0, .string ⟨#[]⟩, .slice none 0 0, .slice none 0 0] 91) := ⟨_, rfl⟩
 have hRl := hr.lt
 have hI1 : OObjI f R t mo tw far w w1 [] := by
  refine ⟨?_, ?_, ?_, nilS, nilS, [], ?_, World.ownsRow_nil _ _ _ _, World.ownsRow_nil _ _ _ _, trivial, fun g hg => by cases hg⟩
  ·show RB w1 R t mo (tw || false) (far || false)
   simp only [Bool.or_false]; rw [hw1]; exact (Below.heap_alloc _ _ _ hRl).trans hr
  ·rw [hw1]; exact (KeptX.refl R w).alloc _
  ·rw [hw1]; simp
  ·rw [hw1]; exact heap_new _ _ _ rfl
 have hsz := ha.small
 have hln := ha.len
 have hple := ha.le
 have hplt := ha.lt
 simp only [List.length_cons] at hln
 have HA := hide ha.next
 have HI1 := hide hI1
 have HRV := hide hrv
 have HX := hide hX
 have HV := hide hV
 have hskr := Sp.skB_len r
 clear hr ha hI1 hrv hX hV
 go_enter Tryz.func130, Tryz.ntmps130
 go_wp2_with (fail)
 rw [← hw1]
 have HW1 := hide hw1
 clear hw1
 refine (rOver_any (unhide HI1).rb.rs (unhide HA)).mono ?_
 rintro e w2 ⟨⟨q, rfl, hq⟩, rfl⟩
 have HQ := hide hq
 have hql := hq.le
 clear hq
 go_wp2_with (fail)
 refine (rIs_any (unhide HI1).rb.rs (unhide HQ) 125 _ rfl).mono ?_
 rintro e w3 ⟨rfl, rfl⟩
 cases h93 : Sp.tk (Sp.skB r) 125 with
 | true =>
  have hq1l := ((unhide HQ).tail h93).le
  have HF := hide ((unhide HI1).done (o := Sp.rval (f + 1) (123 :: r)) (by rw [unhide HRV, if_pos h93]) ((unhide HQ).tail h93))
  clear h93
  go_wp2_with (fail)
  go_ret2
  exact unhide HF
 | false =>
  have HRV2 := hide (show Sp.rval (f + 1) (123 :: r) = X.map fun x => (Sp.oObj x.2, x.1) by rw [unhide HRV, if_neg (by rw [h93]; decide)])
  clear h93
  go_wp2_with (fail)
  go_loopw [1] (fun a wr => ∃ (q : Nat) (l' : Sp.By) (es : Sp.Ms) (n : Nat), a = .int .i64 q ∧ At t q l' ∧ Sp.skB l' = l' ∧ l'.length < n ∧ l'.length < f ∧ Sp.lst 125 (Sp.rmemb (Sp.rval f)) n l' es = X ∧ OObjI f R t mo tw far w wr es ∧ es.length + l'.length ≤ 2001) (fun a _ => t.size - (intOf a).toNat)
  case atStart => exact ⟨q, Sp.skB r, [], (Sp.skB r).length + 1, rfl, unhide HQ, skB_idem r, by omega, by omega, (unhide HX).symm, unhide HI1, by simp; omega⟩
  case round =>
   obtain ⟨q, l', es, n, rfl, hat, hsk, hln, hlf', hlst, hI, hes⟩ := hrel
   have hatl := hat.len
   have hatle := hat.le
   have HAT := hide hat
   have HSK := hide hsk
   have HLST := hide hlst
   have HI := hide hI
   have HNO := hide (fun h => show Sp.rval (f + 1) (123 :: r) = none by rw [unhide HRV2, rmemb_none hlst hln hsk h]; rfl)
   clear hat hsk hlst hI
   go_wp2_with (fail)
   refine (rIs_any (unhide HI).rb.rs (unhide HAT) 34 _ rfl).mono ?_
   rintro e w4 ⟨rfl, rfl⟩
   cases h34 : Sp.tk l' 34 with
   | false =>
    have HF := hide (OvEnd.fail (o := Sp.rval (f + 1) (123 :: r)) (f := f + 1) (tw := tw) (far := far) (unhide HNO (rmemb_q (quo_no h34))) (unhide HI).kept (unhide HI).rb)
    clear h34
    go_wp2_with (fail)
    go_ret2
    exact unhide HF
   | true =>
    obtain ⟨r0, rfl⟩ := tk_form h34
    have hcall := hide (rText_any (unhide HI).rb.rs (unhide HAT) (by have := (unhide HI).sz; omega))
    clear h34
    go_wp2_with (fail)
    refine (unhide hcall).mono ?_
    rintro e w5 ⟨hc, hb5⟩
    clear hcall
    have HI5 := hide ((unhide HI).low hRl hb5)
    rcases hc with ⟨k, l1, b, q1, hs, rfl, hbk, hat1, hq1⟩ | ⟨hs, rfl⟩
    ·obtain rfl : b = ⟨k.toArray⟩ := by rw [← hbk, Array.toArray_toList]
     have HS := hide hs
     have HAT1 := hide hat1
     have hl1 := Sp.quo_len hs
     have e0 : ((q1 : Int) == 0) = false := by rw [beq_eq_false_iff_ne]; omega
     have hq1le := hat1.le
     have hkl : k.length ≤ 8000 := by have := quo_le hs; have := hatl; simp only [List.length_cons] at *; omega
     clear hs hat1 hbk hb5 HI
     go_wp2_with (fail)
     refine (rOver_any (unhide HI5).rb.rs (unhide HAT1)).mono ?_
     rintro e w6 ⟨⟨q2, rfl, hq2⟩, rfl⟩
     have HQ2 := hide hq2
     have hq2l := hq2.le
     have hq2n := hq2.len
     have hsk2 := Sp.skB_len l1
     clear hq2
     go_wp2_with (fail)
     refine (rIs_any (unhide HI5).rb.rs (unhide HQ2) 58 _ rfl).mono ?_
     rintro e w7 ⟨rfl, rfl⟩
     cases h58 : Sp.tk (Sp.skB l1) 58 with
     | false =>
      have HF := hide (OvEnd.fail (o := Sp.rval (f + 1) (123 :: r)) (f := f + 1) (tw := tw) (far := far) (unhide HNO (rmemb_c (unhide HS) h58)) (unhide HI5).kept (unhide HI5).rb)
      clear h58
      go_wp2_with (fail)
      go_ret2
      exact unhide HF
     | true =>
      have hat3 := (unhide HQ2).tail h58
      have hq3l := hat3.le
      have htl := tk_cons h58
      have H58 := hide h58
      have HAT3 := hide hat3
      clear h58 hat3
      go_wp2_with (fail)
      refine (rOver_any (unhide HI5).rb.rs (unhide HAT3)).mono ?_
      rintro e w8 ⟨⟨q4, rfl, hq4⟩, rfl⟩
      have HQ4 := hide hq4
      have hsk4 := Sp.skB_len (Sp.skB l1).tail
      have hq4n := hq4.len
      simp only [List.length_cons] at hatl hl1 hlf' hln hes
      have hcall := hide ((unhide HV) R t mo _ _ q4 _ w8 (unhide HI5).rb hq4 hmo (by omega))
      clear hq4
      go_wp2_with (fail)
      refine (unhide hcall).mono ?_
      rintro e w9 ⟨hk9, hc⟩
      clear hcall
      rcases hc with ⟨d, r', V, q5, hs5, rfl, hat5, hrep, hrb⟩ | ⟨hs5, rfl, tw', far', hrb⟩
      ·obtain ⟨kl, sl, ps, hob, hok, hov, hal, hne⟩ := (unhide HI5).el
       have hpl : ps.length = es.length := by have := hal.length; simpa using this
       have hlr := rval_len _ _ _ _ hs5
       have hsz8 := (unhide HI5).sz
       have hs9 := hk9.size
       have hob9 := hob.kept (hk9.block w.heap.size (by omega) (by omega))
       have hok9 := owns_kept hok (fun g hg => hk9.block g (owns_lt hok g hg).1 (by have := (owns_lt hok g hg).2; omega))
       have hov9 := owns_kept hov (fun g hg => hk9.block g (owns_lt hov g hg).1 (by have := (owns_lt hov g hg).2; omega))
       have hptr : ∀ p ∈ ps, ∃ b, p = .pointer (some b) := by
        intro p hp
        obtain ⟨j, hj, rfl⟩ := List.getElem_of_mem hp
        obtain ⟨b, hb, _⟩ := (hal.get j hj (by simp; omega)).ptr
        exact ⟨_, hb⟩
       obtain ⟨x, hx1, hx2⟩ := fstK_at k (es.map (·.1)) ps (by simpa using hpl) hptr
       have hget := hide (rGet_any hob9 (ks := es.map (·.1)) (B1 := w.heap.size + 1) (by rw [List.length_map, List.map_map]; exact hok9) hov9 (by simpa using hpl) k)
       obtain ⟨b1, hb1⟩ : ∃ b1, b1 = ((tw || Sp.twO (f + 1) (Sp.oObj es)) || Sp.twO f d) := ⟨_, rfl⟩
       obtain ⟨f1, hf1⟩ : ∃ f1, f1 = ((far || Sp.faO mo (f + 1) (Sp.oObj es)) || Sp.faO mo f d) := ⟨_, rfl⟩
       rw [← hb1, ← hf1] at hrb
       have HS5 := hide hs5
       have HAT5 := hide hat5
       have HREP := hide hrep
       have HRB := hide hrb
       have HOB := hide hob
       have HOK := hide hok
       have HOV := hide hov
       have HAL := hide hal
       have HNE := hide hne
       have HOB9 := hide hob9
       have HOK9 := hide hok9
       have HOV9 := hide hov9
       have HX1 := hide hx1
       have HX2 := hide hx2
       have HB1 := hide hb1
       have HF1 := hide hf1
       clear hs5 hat5 hrep hrb hob hok hov hal hne hob9 hok9 hov9 hx1 hx2 hb1 hf1 hptr
       go_wp2_with (fail)
       refine (unhide hget).mono ?_
       rintro e w10 ⟨rfl, rfl⟩
       rw [unhide HX1]
       clear hget
       have r2 := (unhide HRB).c2
       have y2 := (unhide HRB).fz 2
       go_upto_region 17 with (fail)
       go_cut [] (fun wx => wx = w10.setCell ⟨R, 2, none⟩ (.bool (b1 || x.isSome)))
       case first =>
        cases b1 with
        | true =>
         go_wp2_with (fail)
         go_meet
         rfl
        | false =>
         cases x with
         | none =>
          go_wp2_with (fail)
          go_meet
          rfl
         | some a =>
          go_wp2_with (fail)
          go_meet
          rfl
       case rest =>
       have hrb7 : RB wc R t mo (b1 || x.isSome) f1 := by rw [hcut]; exact (unhide HRB).set2 _
       have hk7 : KeptX R w8 wc := by rw [hcut]; exact hk9.setCell rfl _
       have HCUT := hide hcut
       clear hcut r2 y2
       have hs7 := hk7.size
       have hob7 := (unhide HOB).kept (hk7.block w.heap.size (by omega) (by omega))
       have hok7 := owns_kept (unhide HOK) (fun g hg => hk7.block g (owns_lt (unhide HOK) g hg).1 (by have := (owns_lt (unhide HOK) g hg).2; omega))
       have hov7 := owns_kept (unhide HOV) (fun g hg => hk7.block g (owns_lt (unhide HOV) g hg).1 (by have := (owns_lt (unhide HOV) g hg).2; omega))
       have hrep7 : ORep f (fun k => w8.heap.size ≤ k) wc (.pointer (some ⟨V, 0, none⟩)) d := (unhide HREP).move fun j h1 h2 => ⟨by rw [unhide HCUT]; exact Below.heap_setCell _ _ _ _ (by show j ≠ R; omega), h1⟩
       have nk : some w.heap.size ≠ kl.ownBlock := fun h => by have := (owns_lt hok7 _ h.symm).2; omega
       have nv : some w.heap.size ≠ sl.ownBlock := fun h => by have := (owns_lt hov7 _ h.symm).2; omega
       have p5 := hob7.c5
       have p5' : ∀ o, (wc.alloc o).cell? ⟨w.heap.size, 5, none⟩ = some kl := fun o => by rw [World.cell?_of_block (w := wc) (Below.heap_alloc wc o w.heap.size (by omega))]; exact p5
       have p6' : ∀ o, (wc.alloc o).cell? ⟨w.heap.size, 6, none⟩ = some sl := fun o => by rw [World.cell?_of_block (w := wc) (Below.heap_alloc wc o w.heap.size (by omega))]; exact hob7.c6
       have z5' : ∀ o j, (wc.alloc o).frozen? ⟨w.heap.size, j, none⟩ = false := fun o j => by rw [World.frozen?_of_block (w := wc) (Below.heap_alloc wc o w.heap.size (by omega))]; exact hob7.fz j
       have hle : es.length ≤ 2001 := by omega
       have HOK7 := hide hok7
       have HOV7 := hide hov7
       have HOB7 := hide hob7
       have HREP7 := hide hrep7
       have HRB7 := hide hrb7
       have HK7 := hide hk7
       clear hok7 hov7 hob7 hrep7 hrb7 hk7
       go_upto_region 19 with (at_builtin; refine wpList_append_lies _ rfl _ _ _ rfl (w.heap.size + 1) 9 i1 _ 1 16 Tryz.underlying59 ji0 jz0 jz1 jz2 rfl (by decide) kl es.length (es.map fun p => strV p.1) rfl ((unhide HOK7).alloc _) ⟨wc.heap.size, 0, none⟩ 1 1 [strV k] rfl rfl (World.news_of_block (cs := #[strV k]) (t := 9) (fr := (0, 0)) (heap_alloc_new wc _)) (by simp [strV, Value.oneCell']) (by decide) (by unfold maxLen; omega) (by omega) (by simp; omega) (wc.heap.size + 1) (by simp) ?_; intro g1 c1 w11 hown11 hgrow11 hat11 hlt11; have y5 : w11.cell? ⟨w.heap.size, 5, none⟩ = some kl := (hgrow11.cell_far ⟨w.heap.size, 5, none⟩ (by simp; omega) nk).trans (p5' _); have y6 : w11.cell? ⟨w.heap.size, 6, none⟩ = some sl := (hgrow11.cell_far ⟨w.heap.size, 6, none⟩ (by simp; omega) nk).trans (p6' _); have z5 : w11.frozen? ⟨w.heap.size, 5, none⟩ = false := (hgrow11.frozen_far ⟨w.heap.size, 5, none⟩ (by simp; omega) nk).trans (z5' _ 5); have z6 : w11.frozen? ⟨w.heap.size, 6, none⟩ = false := (hgrow11.frozen_far ⟨w.heap.size, 6, none⟩ (by simp; omega) nk).trans (z5' _ 6))
       have hgs11 : wc.heap.size + 1 ≤ w11.heap.size := by have := hgrow11.size; simpa using this
       obtain ⟨w12, hw12⟩ : ∃ w12, w12 = w11.setCell ⟨w.heap.size, 5, none⟩ (.slice (some ⟨g1, 0, none⟩) (es.length + 1) c1) := ⟨_, rfl⟩
       rw [← hw12]
       have hs12 : w12.heap.size = w11.heap.size := by rw [hw12]; simp [World.setCell]
       have hov12 := owns_kept (w' := w12) (unhide HOV7) (fun g hg => by
        have hg2 := owns_lt (unhide HOV7) g hg
        rw [hw12]
        refine (Below.heap_setCell _ _ _ _ (show g ≠ w.heap.size by omega)).trans ((hgrow11.block g (by simp; omega) ?_).trans (Below.heap_alloc wc _ g hg2.1))
        intro h
        exact unhide HNE g h.symm hg)
       have hob12 : OB w12 w.heap.size Sp.kdO false [] 0 [] (.slice (some ⟨g1, 0, none⟩) (es.length + 1) c1) sl := by
        rw [hw12]
        exact OB.set5 ((unhide HOB7).kept ((hgrow11.block w.heap.size (by simp; omega) nk).trans (Below.heap_alloc wc _ w.heap.size (by omega)))) _
       have u6 := hob12.c6
       have u6' : ∀ o, (w12.alloc o).cell? ⟨w.heap.size, 6, none⟩ = some sl := fun o => by rw [World.cell?_of_block (w := w12) (Below.heap_alloc w12 o w.heap.size (by omega))]; exact u6
       have v6' : ∀ o, (w12.alloc o).frozen? ⟨w.heap.size, 6, none⟩ = false := fun o => by
        rw [World.frozen?_of_block (w := w12) (Below.heap_alloc w12 o w.heap.size (by omega))]
        exact hob12.fz 6
       have HOV12 := hide hov12
       have HW12 := hide hw12
       have HG11 := hide hgrow11
       have HOWN11 := hide hown11
       have HAT11 := hide hat11
       have HS12 := hide hs12
       have hs12a : w11.heap.size ≤ w12.heap.size := by omega
       clear hs12 hov12 hob12 hw12 hgrow11 hown11 hat11 y5 y6 z5 z6 p5 p5' p6' z5'
       go_wp2_with (at_builtin; refine wpList_append_lies _ rfl _ _ _ rfl (w.heap.size + 1) 66 i0 _ 1 8 Tryz.underlying89 hi0 hz0 hz1 hz2 rfl (by decide) sl ps.length ps rfl ((unhide HOV12).alloc _) ⟨w12.heap.size, 0, none⟩ 1 1 [.pointer (some ⟨V, 0, none⟩)] rfl rfl (World.news_of_block (cs := #[.pointer (some ⟨V, 0, none⟩)]) (t := 66) (fr := (0, 0)) (heap_alloc_new w12 _)) (by simp [Value.oneCell']) (by decide) (by unfold maxLen; omega) (by omega) (by simp; omega) (w12.heap.size + 1) (by simp) ?_; intro g2 c2 w13 hown13 hgrow13 hat13 hlt13; have zz : w13.frozen? ⟨w.heap.size, 6, none⟩ = false := (hgrow13.frozen_far ⟨w.heap.size, 6, none⟩ (by simp; omega) nv).trans (v6' _); have yy : w13.cell? ⟨w.heap.size, 6, none⟩ = some sl := (hgrow13.cell_far ⟨w.heap.size, 6, none⟩ (by simp; omega) nv).trans (u6' _))
       have I7 : OObjI f R t mo tw far w (w13.setCell ⟨w.heap.size, 6, none⟩ (.slice (some ⟨g2, 0, none⟩) (ps.length + 1) c2)) (es ++ [(k, d)]) := by
        rw [unhide HW12] at hgrow13
        refine omem_fin hRl (unhide HI5).kept hsz8 (unhide HK7) (unhide HRB7) ?_ ?_ (unhide HOB) (unhide HOK) (unhide HOV) (unhide HAL) (unhide HNE) (unhide HOWN11) (unhide HG11) (unhide HAT11) (unhide HREP7) hown13 hgrow13 (by rw [← unhide HS12]; exact hat13)
        ·rw [two_snoc, unhide HX2, unhide HB1]; simp only [Bool.or_assoc]
        ·rw [fao_snoc, unhide HF1]; simp only [Bool.or_assoc]
       rw [hpl] at I7
       obtain ⟨w7, hw7⟩ : ∃ w7, w7 = w13.setCell ⟨w.heap.size, 6, none⟩ (.slice (some ⟨g2, 0, none⟩) (es.length + 1) c2) := ⟨_, rfl⟩
       rw [← hw7] at I7 ⊢
       have HI7 := hide I7
       have HXS := hide (rmemb_step (unhide HLST) (by simp only [List.length_cons]; omega) (unhide HSK) (unhide HS) (unhide H58) (unhide HS5))
       have HW7 := hide hw7
       clear I7 hown13 hgrow13 hat13 zz yy u6 u6' v6' hw7
       refine (rOver_any (unhide HI7).rb.rs (unhide HAT5)).mono ?_
       rintro e w14 ⟨⟨q6, rfl, hq6⟩, rfl⟩
       have HQ3 := hide hq6
       have hq6l := hq6.le
       have hq6n := hq6.len
       have hsk6 := Sp.skB_len r'
       clear hq6
       go_wp2_with (fail)
       refine (rIs_any (unhide HI7).rb.rs (unhide HQ3) 125 _ rfl).mono ?_
       rintro e w15 ⟨rfl, rfl⟩
       cases h93 : Sp.tk (Sp.skB r') 125 with
       | true =>
        have HF := hide ((unhide HI7).done (o := Sp.rval (f + 1) (123 :: r)) (by rw [unhide HRV2, unhide HXS, if_pos h93]; rfl) ((unhide HQ3).tail h93))
        have hq7l := ((unhide HQ3).tail h93).le
        clear h93
        go_wp2_with (fail)
        go_ret2
        exact unhide HF
       | false =>
        have HX2 := hide (show X = if Sp.tk (Sp.skB r') 44 then Sp.lst 125 (Sp.rmemb (Sp.rval f)) (n - 1) (Sp.skB (Sp.skB r').tail) (es ++ [(k, d)]) else none by rw [unhide HXS, if_neg (by rw [h93]; decide)])
        clear h93
        go_wp2_with (fail)
        refine (rIs_any (unhide HI7).rb.rs (unhide HQ3) 44 _ rfl).mono ?_
        rintro e w16 ⟨rfl, rfl⟩
        cases h44 : Sp.tk (Sp.skB r') 44 with
        | false =>
         have HF := hide (OvEnd.fail (o := Sp.rval (f + 1) (123 :: r)) (f := f + 1) (tw := tw) (far := far) (by rw [unhide HRV2, unhide HX2, if_neg (by rw [h44]; decide)]; rfl) (unhide HI7).kept (unhide HI7).rb)
         clear h44
         go_wp2_with (fail)
         go_ret2
         exact unhide HF
        | true =>
         have hat7 := (unhide HQ3).tail h44
         have hq7l := hat7.le
         have htl7 := tk_cons h44
         have HX3 := hide (show X = Sp.lst 125 (Sp.rmemb (Sp.rval f)) (n - 1) (Sp.skB (Sp.skB r').tail) (es ++ [(k, d)]) by rw [unhide HX2, if_pos h44])
         have HAT7 := hide hat7
         clear h44 hat7
         go_wp2_with (fail)
         refine (rOver_any (unhide HI7).rb.rs (unhide HAT7)).mono ?_
         rintro e w17 ⟨⟨q8, rfl, hq8⟩, rfl⟩
         have hq8n := hq8.len
         have hq8l := hq8.le
         have hsk8 := Sp.skB_len (Sp.skB r').tail
         have HQ8 := hide hq8
         have hfin : q < q8 ∧ (Sp.skB (Sp.skB r').tail).length + 1 < r0.length + 1 := by omega
         clear hq8
         go_wp2_with (fail)
         go_roundw
         case rel => (repeat apply Exists.intro); exact ⟨rfl, unhide HQ8, skB_idem _, by omega, by omega, (unhide HX3).symm, unhide HI7, by simp; omega⟩
         case measure => simp only [intOf]; omega
      ·have HF := hide (OvEnd.fail (o := Sp.rval (f + 1) (123 :: r)) (f := f + 1) (tw := tw) (far := far) (unhide HNO (rmemb_v (unhide HS) hs5)) ((unhide HI5).kept.trans hk9) hrb)
       clear hs5 hk9 hrb
       go_wp2_with (fail)
       go_ret2
       exact unhide HF
    ·have HF := hide (OvEnd.fail (o := Sp.rval (f + 1) (123 :: r)) (f := f + 1) (tw := tw) (far := far) (unhide HNO (rmemb_q hs)) (unhide HI5).kept (unhide HI5).rb)
     clear hs hb5 HI5 HI
     go_wp2_with (fail)
     go_ret2
     exact unhide HF
end Go.Proofs.YtdpomdelmdofmaaGreatDoor

namespace Go.Proofs.YtdpomdelmdofmaaGreatDoor
open Go.RowKit
def rwL (j : Nat) : Sp.By := if j = 0 then [110, 117, 108, 108] else if j = 1 then [102, 97, 108, 115, 101] else [116, 114, 117, 101]
def rwK (j : Nat) : Nat := if j = 0 then 0 else if j = 1 then 2 else 1
theorem rwL_len (j : Nat) : (rwL j).length ≤ 5 ∧ 0 < (rwL j).length := by
 unfold rwL
 repeat' split
 all_goals decide
theorem rwK_lt (j : Nat) : rwK j < 3 := by
 unfold rwK
 repeat' split
 all_goals omega
theorem rwK_word (j : Nat) : Sp.words.getD (rwK j) [] = rwL j := by
 unfold rwK rwL
 repeat' split
 all_goals rfl
theorem rval_word (f : Nat) (l : Sp.By) (j : Nat) (hj : j < 3) (h : Lib.hasPrefix l (rwL j) = true) : Sp.rval (f + 1) l = some (Sp.oWord (rwK j), l.drop (rwL j).length) := by
 unfold Lib.hasPrefix at h
 obtain ⟨r, rfl⟩ := List.isPrefixOf_iff_prefix.1 h
 match j, hj with
 | 0, _ => simp [Sp.rval, rwL, rwK, Sp.pk, Sp.wordIn, Sp.words, Lib.hasPrefix, List.isPrefixOf]
 | 1, _ => simp [Sp.rval, rwL, rwK, Sp.pk, Sp.wordIn, Sp.words, Lib.hasPrefix, List.isPrefixOf]
 | 2, _ => simp [Sp.rval, rwL, rwK, Sp.pk, Sp.wordIn, Sp.words, Lib.hasPrefix, List.isPrefixOf]
theorem pk_no {l : Sp.By} {c : UInt8} (h : Sp.tk l c = false) (hc : 0 < c.toNat) : ¬ Sp.pk l = c.toNat := by
 cases l with
 | nil => show ¬ 0 = _; omega
 | cons a r =>
  intro e
  have : a = c := UInt8.toNat_inj.1 e
  rw [this] at h
  simp [Sp.tk] at h
theorem dgH_pk (l : Sp.By) : Sp.dgH l = true ↔ 48 ≤ Sp.pk l ∧ Sp.pk l ≤ 57 := by
 cases l with
 | nil => simp [Sp.dgH, Sp.pk]
 | cons a r => exact isD_iff a
theorem tk_pk {l : Sp.By} {c : UInt8} (h : Sp.tk l c = true) : Sp.pk l = c.toNat := by
 obtain ⟨r, rfl⟩ := tk_form h; rfl
theorem rval_none (f : Nat) (l : Sp.By) (h : ∀ j, j < 3 → Lib.hasPrefix l (rwL j) = false) (hd : Sp.dgH l = false) (h45 : Sp.tk l 45 = false) (h34 : Sp.tk l 34 = false) (h91 : Sp.tk l 91 = false) (h123 : Sp.tk l 123 = false) : Sp.rval (f + 1) l = none := by
 have e1 : ¬ Sp.pk l = 45 := pk_no h45 (by decide)
 have e2 : ¬ Sp.pk l = 34 := pk_no h34 (by decide)
 have e3 : ¬ Sp.pk l = 91 := pk_no h91 (by decide)
 have e4 : ¬ Sp.pk l = 123 := pk_no h123 (by decide)
 have e5 : ¬ (48 ≤ Sp.pk l ∧ Sp.pk l ≤ 57) := by rw [← dgH_pk, hd]; decide
 have w0 : Lib.hasPrefix l [110, 117, 108, 108] = false := h 0 (by omega)
 have w1 : Lib.hasPrefix l [102, 97, 108, 115, 101] = false := h 1 (by omega)
 have w2 : Lib.hasPrefix l [116, 114, 117, 101] = false := h 2 (by omega)
 unfold Sp.rval
 rw [if_neg e4, if_neg e3, if_neg e2, if_neg (fun h => h.elim e1 e5)]
 simp [Sp.wordIn, Sp.words, w0, w1, w2]
theorem rval_num (f : Nat) (l : Sp.By) (h : Sp.dgH l = true ∨ Sp.tk l 45 = true) : Sp.rval (f + 1) l = (Sp.num l).map fun x => (Sp.oNum x.1 (Sp.rex l), x.2) := by
 have hp : Sp.pk l = 45 ∨ (48 ≤ Sp.pk l ∧ Sp.pk l ≤ 57) := h.elim (fun h => Or.inr ((dgH_pk l).1 h)) (fun h => Or.inl (tk_pk h))
 unfold Sp.rval
 rw [if_neg (by omega), if_neg (by omega), if_neg (by omega), if_pos hp]
 cases Sp.num l <;> rfl
theorem rval_str (f : Nat) (r : Sp.By) : Sp.rval (f + 1) (34 :: r) = (Sp.quo (34 :: r)).map fun x => (Sp.oStr x.1, x.2) := by
 unfold Sp.rval
 rw [if_neg (by simp [Sp.pk]), if_neg (by simp [Sp.pk]), if_pos (by simp [Sp.pk])]
 cases Sp.quo (34 :: r) <;> rfl
theorem OvEnd.up {o : Option (Sp.O × Sp.By)} {f : Nat} {t : ByteArray} {R : Nat} {mo : Int} {tw far : Bool} {w wa w' : World} {e : Ending} (h : OvEnd o f t R mo tw far wa e w') (hk : KeptX R w wa) : OvEnd o f t R mo tw far w e w' := by
 obtain ⟨h1, h2⟩ := h
 refine ⟨hk.trans h1, h2.imp ?_ id⟩
 rintro ⟨d, r, V, q, a1, a2, a3, a4, a5⟩
 have := hk.size
 exact ⟨d, r, V, q, a1, a2, a3, a4.move (fun k h1 _ => ⟨rfl, by omega⟩), a5⟩
theorem NumEnd.ov {l : Sp.By} {f : Nat} {t : ByteArray} {R : Nat} {mo : Int} {tw far : Bool} {w w' : World} {e : Ending} (h : NumEnd (Sp.num l) (Sp.rex l) t R mo tw far w e w') (hp : Sp.dgH l = true ∨ Sp.tk l 45 = true) : OvEnd (Sp.rval (f + 1) l) (f + 1) t R mo tw far w e w' := by
 obtain ⟨h1, h2⟩ := h
 rw [rval_num f l hp]
 refine ⟨h1, ?_⟩
 rcases h2 with ⟨n, r, V, q, ds, a1, a2, a3, a4, a5, a6, a7⟩ | ⟨a1, a2, a3⟩
 ·refine Or.inl ⟨Sp.oNum n (Sp.rex l), r, V, q, by rw [a1]; rfl, a2, a3, ⟨V, rfl, a4, Or.inr (Or.inl ⟨n, Sp.rex l, rfl, a6.ob a5⟩)⟩, ?_⟩
  show RB w' R t mo (tw || false) _
  rw [Bool.or_false]
  exact a7
 ·exact Or.inr ⟨by rw [a1]; rfl, a2, tw, far, a3⟩
end Go.Proofs.YtdpomdelmdofmaaGreatDoor

namespace Go.Proofs.YtdpomdelmdofmaaGreatDoor
open Go.RowKit
theorem OvEnd.form {o : Option (Sp.O × Sp.By)} {f : Nat} {t : ByteArray} {R : Nat} {mo : Int} {tw far : Bool} {w w' : World} {e : Ending} (h : OvEnd o f t R mo tw far w e w') : ∃ (a : Option Addr) (q : Nat), e = .returned (.tuple #[.pointer a, .int .i64 q]) := by
 rcases h.2 with ⟨d, r, V, q, a1, a2, _⟩ | ⟨a1, a2, _⟩
 ·exact ⟨_, q, a2⟩
 ·exact ⟨none, 0, a2⟩
set_option maxRecDepth 100000 in
set_option maxHeartbeats 8000000 in
theorem oValue_step {f : Nat} (hV : OvOk f) : OvOk (f + 1) := by
 intro R t mo tw far p l w hr ha hmo hlf
 have hRl := hr.lt
 obtain ⟨wa, hwa⟩ : ∃ wa, wa = w.alloc (.cells #[.string ⟨#[110, 117, 108, 108]⟩, .string ⟨#[102, 97, 108, 115, 101]⟩, .string ⟨#[116, 114, 117, 101]⟩] 9) := ⟨_, rfl⟩
 have hra : RB wa R t mo tw far := by rw [hwa]; exact (Below.heap_alloc _ _ _ hr.lt).trans hr
 have hka : KeptX R w wa := by rw [hwa]; exact (KeptX.refl R w).alloc _
 have hga : wa.heap[w.heap.size]? = some (.cells #[.string ⟨#[110, 117, 108, 108]⟩, .string ⟨#[102, 97, 108, 115, 101]⟩, .string ⟨#[116, 114, 117, 101]⟩] 9 (0, 0)) := by rw [hwa]; exact heap_new _ _ _ rfl
 have hcell : ∀ j, j < 3 → wa.cell? ⟨w.heap.size, j, none⟩ = some (.string ⟨(rwL j).toArray⟩) := by
  intro j hj
  match j, hj with
  | 0, _ => simp [World.cell?, hga, rwL]
  | 1, _ => simp [World.cell?, hga, rwL]
  | 2, _ => simp [World.cell?, hga, rwL]
 have hsz := ha.small
 have hln := ha.len
 have hple := ha.le
 have rs := hra.rs
 unfold RS at rs
 have HR := hide hra
 have HK := hide hka
 have HA := hide ha
 have HC := hide hcell
 have HV := hide hV
 clear hr ha hra hka hga hcell hV
 go_enter Tryz.func91, Tryz.ntmps91
 go_wp2_with (fail)
 rw [← hwa]
 have HW := hide hwa
 clear hwa
 go_loopw [7] (fun i wr => ∃ j : Nat, j ≤ 3 ∧ i = .int .i64 j ∧ (∀ k, k < j → Lib.hasPrefix l (rwL k) = false) ∧ wr = wa) (fun i _ => 3 - (intOf i).toNat)
 case atStart => exact ⟨0, by omega, rfl, fun k hk => absurd hk (by omega), rfl⟩
 case round =>
  obtain ⟨j, hj, rfl, hno, rfl⟩ := hrel
  have HNO := hide hno
  clear hno
  by_cases hlt : j < 3
  ·have hc := unhide HC j hlt
   have hl5 := rwL_len j
   obtain ⟨q, hq⟩ : ∃ q, q = p + (rwL j).length := ⟨_, rfl⟩
   have hqi : (p : Int) + ((rwL j).length : Int) = (q : Int) := by omega
   have hpq : p ≤ q := by omega
   have HQ := hide hq
   clear hq
   by_cases hle : q ≤ t.size
   ·have hdl : decide ((q : Int) ≤ (t.size : Int)) = true := decide_eq_true (by omega)
    have hex : t.extract p q = ⟨(l.take (rwL j).length).toArray⟩ := by
     have h1 := ext_list t p (rwL j).length
     rw [← unhide HQ, (unhide HA).eq] at h1
     rw [← h1, Array.toArray_toList]
    cases hp : Lib.hasPrefix l (rwL j) with
    | true =>
     have htk : l.take (rwL j).length = rwL j := by
      unfold Lib.hasPrefix at hp
      exact (List.prefix_iff_eq_take.1 (List.isPrefixOf_iff_prefix.1 hp)).symm
     rw [htk] at hex
     have hrv := rval_word f l j hlt hp
     have HRV := hide hrv
     have HAQ := hide (show At t q (l.drop (rwL j).length) by have := (unhide HA).add (rwL j).length (by omega); rwa [← unhide HQ] at this)
     have HL := hide hl5
     clear hp htk hrv hl5
     go_wp2_with (fail)
     go_ret2
     refine ⟨(unhide HK).alloc _, Or.inl ⟨Sp.oWord (rwK j), l.drop (rwL j).length, wr.heap.size, q, unhide HRV, rfl, unhide HAQ, ⟨wr.heap.size, rfl, (unhide HK).size, Or.inl ⟨rwK j, rwK_lt j, rfl, by rw [rwK_word]; exact heap_new _ _ _ rfl⟩⟩, ?_⟩⟩
     show RB _ R t mo (tw || false) (far || false)
     rw [Bool.or_false, Bool.or_false]
     exact (Below.heap_alloc _ _ _ (unhide HR).lt).trans (unhide HR)
    | false =>
     have htk : (l.take (rwL j).length == rwL j) = false := by
      rw [beq_eq_false_iff_ne]
      intro h
      unfold Lib.hasPrefix at hp
      rw [← Bool.not_eq_true, List.isPrefixOf_iff_prefix, List.prefix_iff_eq_take] at hp
      exact hp h.symm
     have HP := hide hp
     clear hp
     go_wp2_with (fail)
     exact ⟨⟨j + 1, by omega, by go_num, fun k hk => (by
      by_cases h : k = j
      ·rw [h]; exact unhide HP
      ·exact unhide HNO k (by omega)), trivial⟩, by simp only [intOf]; omega⟩
   ·have hdl : decide ((q : Int) ≤ (t.size : Int)) = false := decide_eq_false (by omega)
    have HP := hide (show Lib.hasPrefix l (rwL j) = false by
     unfold Lib.hasPrefix
     rw [← Bool.not_eq_true, List.isPrefixOf_iff_prefix]
     intro h
     have := h.length_le
     have := unhide HQ
     omega)
    go_wp2_with (fail)
    exact ⟨⟨j + 1, by omega, by go_num, fun k hk => (by
     by_cases h : k = j
     ·rw [h]; exact unhide HP
     ·exact unhide HNO k (by omega)), trivial⟩, by simp only [intOf]; omega⟩
  ·have HN3 := hide (fun (k : Nat) (hk : k < 3) => unhide HNO k (by omega))
   clear HNO
   go_wp2_with (fail)
   refine (rDigit_any (unhide HR).rs (unhide HA)).mono ?_
   rintro e w2 ⟨rfl, rfl⟩
   cases hd : Sp.dgH l with
   | true =>
    have HD := hide hd
    clear hd
    go_wp2_with (fail)
    refine (rNumber_any (unhide HR) (unhide HA) hmo).mono ?_
    rintro e w9 hend
    have hov := (hend.ov (f := f) (Or.inl (unhide HD))).up (unhide HK)
    obtain ⟨a, qq, rfl⟩ := hov.form
    have HOV := hide hov
    clear hov hend
    go_wp2_with (fail)
    go_ret2
    exact unhide HOV
   | false =>
    have HD := hide hd
    clear hd
    go_wp2_with (fail)
    refine (rIs_any (unhide HR).rs (unhide HA) 45 _ rfl).mono ?_
    rintro e w3 ⟨rfl, rfl⟩
    cases h45 : Sp.tk l 45 with
    | true =>
     have H45 := hide h45
     clear h45
     go_wp2_with (fail)
     refine (rNumber_any (unhide HR) (unhide HA) hmo).mono ?_
     rintro e w9 hend
     have hov := (hend.ov (f := f) (Or.inr (unhide H45))).up (unhide HK)
     obtain ⟨a, qq, rfl⟩ := hov.form
     have HOV := hide hov
     clear hov hend
     go_wp2_with (fail)
     go_ret2
     exact unhide HOV
    | false =>
     have H45 := hide h45
     clear h45
     go_wp2_with (fail)
     refine (rIs_any (unhide HR).rs (unhide HA) 34 _ rfl).mono ?_
     rintro e w4 ⟨rfl, rfl⟩
     cases h34 : Sp.tk l 34 with
     | true =>
      obtain ⟨r0, rfl⟩ := tk_form h34
      have hcall := hide (rText_any (unhide HR).rs (unhide HA) (unhide HR).lt)
      clear h34
      go_wp2_with (fail)
      refine (unhide hcall).mono ?_
      rintro e w5 ⟨hc, hb5⟩
      clear hcall
      rcases hc with ⟨k, l1, b, q1, hs, rfl, hbk, hat1, hq1⟩ | ⟨hs, rfl⟩
      ·obtain rfl : b = ⟨k.toArray⟩ := by rw [← hbk, Array.toArray_toList]
       have e0 : ((q1 : Int) == 0) = false := by rw [beq_eq_false_iff_ne]; omega
       have HRV := hide (show Sp.rval (f + 1) (34 :: r0) = some (Sp.oStr k, l1) by rw [rval_str, hs]; rfl)
       have HAT1 := hide hat1
       have HB5 := hide hb5
       clear hs hat1 hbk hb5
       go_wp2_with (fail)
       go_ret2
       refine ⟨((unhide HK).trans (KeptX.of_below (unhide HB5))).alloc _, Or.inl ⟨Sp.oStr k, l1, w5.heap.size, q1, unhide HRV, rfl, unhide HAT1, ⟨w5.heap.size, rfl, Nat.le_trans (unhide HK).size (unhide HB5).size, Or.inr (Or.inr (Or.inl ⟨k, rfl, heap_new _ _ _ rfl⟩))⟩, ?_⟩⟩
       show RB _ R t mo (tw || false) (far || false)
       rw [Bool.or_false, Bool.or_false]
       have hr5 : RB w5 R t mo tw far := (unhide HR).blk ((unhide HB5).block R (unhide HR).lt)
       exact (Below.heap_alloc _ _ _ hr5.lt).trans hr5
      ·have HF := hide (OvEnd.fail (o := Sp.rval (f + 1) (34 :: r0)) (f := f + 1) (tw := tw) (far := far) (by rw [rval_str, hs]; rfl) ((unhide HK).trans (KeptX.of_below hb5)) ((unhide HR).blk (hb5.block R (unhide HR).lt)))
       clear hs hb5
       go_wp2_with (fail)
       go_ret2
       exact unhide HF
     | false =>
      have H34 := hide h34
      clear h34
      go_wp2_with (fail)
      refine (rIs_any (unhide HR).rs (unhide HA) 91 _ rfl).mono ?_
      rintro e w5 ⟨rfl, rfl⟩
      cases h91 : Sp.tk l 91 with
      | true =>
       obtain ⟨r0, rfl⟩ := tk_form h91
       have hcall := hide (oArray_ok (unhide HV) (unhide HR) (unhide HA) hmo (by simpa using hlf))
       clear h91
       go_wp2_with (fail)
       refine (unhide hcall).mono ?_
       rintro e w9 hend
       have hov := hend.up (unhide HK)
       obtain ⟨a, qq, rfl⟩ := hov.form
       have HOV := hide hov
       clear hov hend hcall
       go_wp2_with (fail)
       go_ret2
       exact unhide HOV
      | false =>
       have H91 := hide h91
       clear h91
       go_wp2_with (fail)
       refine (rIs_any (unhide HR).rs (unhide HA) 123 _ rfl).mono ?_
       rintro e w6 ⟨rfl, rfl⟩
       cases h123 : Sp.tk l 123 with
       | true =>
        obtain ⟨r0, rfl⟩ := tk_form h123
        have hcall := hide (oObject_ok (unhide HV) (unhide HR) (unhide HA) hmo (by simpa using hlf))
        clear h123
        go_wp2_with (fail)
        refine (unhide hcall).mono ?_
        rintro e w9 hend
        have hov := hend.up (unhide HK)
        obtain ⟨a, qq, rfl⟩ := hov.form
        have HOV := hide hov
        clear hov hend hcall
        go_wp2_with (fail)
        go_ret2
        exact unhide HOV
       | false =>
        have HF := hide (OvEnd.fail (o := Sp.rval (f + 1) l) (f := f + 1) (tw := tw) (far := far) (rval_none f l (unhide HN3) (unhide HD) (unhide H45) (unhide H34) (unhide H91) h123) (unhide HK) (unhide HR))
        clear h123
        go_wp2_with (fail)
        go_ret2
        exact unhide HF
theorem oValue_ok (f : Nat) : OvOk f := by
 induction f with
 | zero => intro R t mo tw far p l w _ _ _ h; omega
 | succ f ih => exact oValue_step ih
end Go.Proofs.YtdpomdelmdofmaaGreatDoor

namespace Go.Proofs.YtdpomdelmdofmaaGreatDoor
open Go.RowKit
theorem maxs_bd (b : Int) (l : List Int) (h : ∀ x ∈ l, x ≤ b) : ∀ a, a ≤ b → Sp.maxs a l ≤ b := by
 induction l with
 | nil => intro a ha; exact ha
 | cons x r ih => intro a ha; exact ih (fun y hy => h y (by simp [hy])) _ (Int.max_le.2 ⟨ha, h x (by simp)⟩)
theorem dpO_bd (f : Nat) : ∀ o, 1 ≤ Sp.dpO f o ∧ Sp.dpO f o ≤ f + 1 := by
 induction f with
 | zero => intro o; exact ⟨Int.le_refl _, by simp [Sp.dpO]⟩
 | succ f ih =>
  intro o
  unfold Sp.dpO
  split
  ·rename_i es _
   have h1 := maxs_le (es.map (Sp.dpO f)) 0
   have h2 := maxs_bd (f + 1) (es.map (Sp.dpO f)) (fun x hx => by obtain ⟨y, _, rfl⟩ := List.mem_map.1 hx; exact (ih y).2) 0 (by omega)
   omega
  ·rename_i es
   have h1 := maxs_le (es.map fun p => Sp.dpO f p.2) 0
   have h2 := maxs_bd (f + 1) (es.map fun p => Sp.dpO f p.2) (fun x hx => by obtain ⟨y, _, rfl⟩ := List.mem_map.1 hx; exact (ih y.2).2) 0 (by omega)
   omega
  ·omega
def OdOk (f : Nat) : Prop := ∀ (F : Nat → Prop) (w : World) (v : Value) (o : Sp.O), ORep f F w v o → f ≤ 2100 → Calls Tryz.prog 93 #[v] w fun e w' => e = .returned (.int .i64 (Sp.dpO f o)) ∧ w' = w
set_option maxHeartbeats 4000000 in
theorem depth_nil {w : World} {b : Nat} {k : Sp.By} {ng : Bool} {ds : Sp.By} {x : Int} {s : Sp.By} {ks : Value} {a : Option Addr} {c : Nat} (h : OB w b k ng ds x s ks (.slice a 0 c)) :
  Calls Tryz.prog 93 #[.pointer (some ⟨b, 0, none⟩)] w fun e w' => e = .returned (.int .i64 1) ∧ w' = w := by
 have c6 := h.c6
 clear h
 go_enter Tryz.func93, Tryz.ntmps93
 go_wp2_with (fail)
 refine wp_loop_rounds 1 ?_
 rw [rounds_succ]
 go_wp2_with (fail)
 go_ret
 exact ⟨rfl, rfl⟩
set_option maxHeartbeats 4000000 in
theorem depth_some {f : Nat} (hD : OdOk f) (hf : f ≤ 2100) {w : World} {F : Nat → Prop} {b B : Nat} {k : Sp.By} {ng : Bool} {ds : Sp.By} {x : Int} {s : Sp.By} {ks sl : Value} {ps : List Value} {os : List Sp.O} (h : OB w b k ng ds x s ks sl)
  (hv : w.ownsRow B 66 1 sl ps.length ps) (hal : Al (ORep f F w) ps os) :
  Calls Tryz.prog 93 #[.pointer (some ⟨b, 0, none⟩)] w fun e w' => e = .returned (.int .i64 (Sp.maxs 0 (os.map (Sp.dpO f)) + 1)) ∧ w' = w := by
 have hle := hal.length
 by_cases h0 : ps.length = 0
 ·have hos : os = [] := List.eq_nil_of_length_eq_zero (by omega)
  subst hos
  have hz : ∃ a c, sl = .slice a 0 c := by
   rcases hv.2 with ⟨e, _⟩ | ⟨g, cap, cur, e, _⟩
   ·exact ⟨none, 0, e⟩
   ·exact ⟨_, cap, by rw [e, h0]⟩
  obtain ⟨a, c, rfl⟩ := hz
  exact depth_nil h
 ·obtain ⟨g, cap, rfl, h1, h2, h3, h4⟩ := owns_cell hv (by omega)
  have c6 := h.c6
  obtain ⟨n, hn⟩ : ∃ n, n = ps.length := ⟨_, rfl⟩
  rw [← hn] at c6 h1
  have hn1 : (n : Int) ≤ 9223372036854775807 := by unfold maxLen at h2; omega
  have HN := hide hn
  have HL := hide hle
  have HC := hide h4
  have HAL := hide hal
  have HD := hide hD
  clear h hv hn hle h4 hal hD h0
  go_enter Tryz.func93, Tryz.ntmps93
  go_wp2_with (fail)
  go_loopw [3, 4] (fun d i wr => ∃ (j : Nat) (m : Int), j ≤ n ∧ i = .int .i64 j ∧ d = .int .i64 m ∧ m = Sp.maxs 0 ((os.map (Sp.dpO f)).take j) ∧ 0 ≤ m ∧ m ≤ 2200 ∧ wr = w) (fun _ i _ => n - (intOf i).toNat)
  case atStart => exact ⟨0, 0, by omega, rfl, rfl, rfl, by omega, by omega, rfl⟩
  case round =>
   obtain ⟨j, m, hj, rfl, rfl, hm, hm0, hm1, rfl⟩ := hrel
   have HM := hide hm
   clear hm
   by_cases hlt : j < n
   ·have hjp : j < ps.length := by have := unhide HN; omega
    have hjo : j < os.length := by have := unhide HL; omega
    have q1 := unhide HC j hjp
    have hrep := (unhide HAL).get j hjp hjo
    have hcall := hide ((unhide HD) _ _ _ _ hrep hf)
    have hbd := dpO_bd f os[j]
    have hst : Sp.maxs 0 ((os.map (Sp.dpO f)).take (j + 1)) = max m (Sp.dpO f os[j]) := by
     rw [List.take_succ_eq_append_getElem (by simpa using hjo), maxs_snoc, ← unhide HM, List.getElem_map]
    have HST := hide hst
    clear hst hrep
    go_wp2_with (fail)
    refine (unhide hcall).mono ?_
    rintro e w2 ⟨rfl, rfl⟩
    clear hcall
    generalize Sp.dpO f os[j] = dj at *
    by_cases hgt : m < dj
    ·have e1 : decide (m < dj) = true := decide_eq_true hgt
     go_wp2_with (fail)
     exact ⟨⟨j + 1, dj, by omega, by go_num, rfl, by rw [unhide HST]; omega, by omega, by omega, trivial⟩, by simp only [intOf]; omega⟩
    ·have e1 : decide (m < dj) = false := decide_eq_false hgt
     go_wp2_with (fail)
     exact ⟨⟨j + 1, m, by omega, by go_num, rfl, by rw [unhide HST]; omega, by omega, by omega, trivial⟩, by simp only [intOf]; omega⟩
   ·have hjn : (os.map (Sp.dpO f)).take j = os.map (Sp.dpO f) := List.take_of_length_le (by have := unhide HN; have := unhide HL; simp; omega)
    have HJ := hide hjn
    clear hjn
    go_wp2_with (fail)
    go_ret
    exact ⟨by rw [← unhide HJ, ← unhide HM]; rfl, rfl⟩
theorem depth_ok (f : Nat) : OdOk f := by
 induction f with
 | zero => intro F w v o h; exact h.elim
 | succ f ih =>
  intro F w v o h hf
  obtain ⟨b, rfl, hb, h⟩ := h
  rcases h with ⟨k, hk, rfl, h⟩ | ⟨n, x, rfl, h⟩ | ⟨s, rfl, h⟩ | ⟨es, sl, ps, rfl, h, ho, hs, ha⟩ | ⟨es, kl, sl, ps, rfl, h, ho, hs, ho2, hs2, ha⟩
  ·exact depth_nil h
  ·exact depth_nil h
  ·exact depth_nil h
  ·exact depth_some ih (by omega) h ho ha
  ·have e : Sp.dpO (f + 1) (Sp.oObj es) = Sp.maxs 0 ((es.map (·.2)).map (Sp.dpO f)) + 1 := by
    show Sp.maxs 0 ((Sp.lits es).map fun p => Sp.dpO f p.2) + 1 = _
    unfold Sp.lits
    rw [List.map_map, List.map_map]
    rfl
   rw [e]
   exact depth_some ih (by omega) h ho2 ha
end Go.Proofs.YtdpomdelmdofmaaGreatDoor
