/-
  The statement on first steps: for every configuration, every script and every number of steps it answers true, where the tables of the program's packages lie as its text lays them.
-/
import Derived.Test.YtlalgnphibjgaaaGreatDoorPart01
import Derived.Test.YtlalgnphibjgaaaGreatDoorPart19
import Derived.Test.YtlalgnphibjgaaaGreatDoorTie
import Derived.Test.YtlalgnphibjgaaaGreatDoorCards
import Derived.Deep.Strs
import Derived.SizedLaws
import Derived.SevenTiedAt
namespace Go.Proofs.YtlalgnphibjgaaaGreatDoor
open Go.ChangeShapes Go.WideShapes Go.ChangeAt Go.RowKit Go.Deep

set_option maxRecDepth 100000 in
/-- A script that is handed in, opened. -/
theorem open_script {H : Type} {enc : TypeId × Value → H} {W : World} {base b0 : Nat} {r : Reach} {sp : Nat → Bool} {held : Bool} {v : Value} {d : DataW H} {p : List MemPlace}
    (hval : Value.okWide Tryz.prog W r b0 24 v) (h : DataW.Trod enc Tryz.prog W base sp held 24 v d p) :
    (∃ pa cap, v = .slice pa 0 cap ∧ (pa = none → cap = 0) ∧ cap ≤ maxLen) ∨
    ∃ (sb so m cap : Nat) (ts : Nat → ByteArray) (l : List Sp.St) (elems spare : List (DataW H)), v = .slice (some ⟨sb, so, none⟩) m cap ∧ m = l.length ∧ m ≤ cap ∧ cap ≤ maxLen ∧ Scr W sb so ts l ∧ sb < W.heap.size ∧ d = .slice elems spare ∧ elems.length = m := by
  obtain ⟨a0, len0, cap0, rfl⟩ := okWide_slice Tryz.underlying24 hval
  obtain ⟨fuel, hf⟩ := h
  have ce : Tryz.prog.cellsOf 50 = 3 := by kernel_rfl
  have c3 : Tryz.prog.cellsOf 3 = 1 := by kernel_rfl
  have c9 : Tryz.prog.cellsOf 9 = 1 := by kernel_rfl
  rcases open_slice Tryz.underlying24 hf with ⟨hcs, _⟩ | ⟨a, len, cap, m, n, D, Pl, hcs, hb, hl, hm, hmm, hx, hel⟩
  · simp only [Value.cells, List.cons.injEq, Value.slice.injEq, and_true] at hcs
    obtain ⟨rfl, rfl, rfl⟩ := hcs
    exact Or.inl ⟨none, 0, rfl, fun _ => rfl, Nat.zero_le _⟩
  simp only [Value.cells, List.cons.injEq, Value.slice.injEq, and_true] at hcs
  obtain ⟨rfl, rfl, rfl⟩ := hcs
  rcases Nat.eq_zero_or_pos len0 with rfl | hpos
  · exact Or.inl ⟨some a, cap0, rfl, (fun h => nomatch h), hm⟩
  right
  have hlm : len0 ≤ m := by rw [hmm]; split <;> omega
  have each : ∀ i, i < len0 → ∃ q : (Int × List UInt8) × ByteArray, W.cell? (a.add (i * 3)) = some (.int .i64 q.1.1) ∧ W.cell? (a.add (i * 3 + 1)) = some (.string ⟨q.1.2.toArray⟩) ∧ W.cell? (a.add (i * 3 + 2)) = some (.string q.2) := by
    intro i hi
    obtain ⟨cs', h1, h2⟩ := hel i (by omega)
    rw [ce] at h1
    obtain ⟨_, hlen, hcell⟩ := World.cells?_some h1
    obtain ⟨y0, y1, y2, k, _, _, g0, g1, g2⟩ := trod_struct3 Tryz.underlying50 h2
    match cs', hlen with
    | [v0, v1, v2], _ =>
      simp [c3, c9] at g0 g1 g2
      obtain ⟨z, e0, _, _⟩ := DataW.trod_int Tryz.underlying3 g0
      obtain ⟨s1, e1, _, _⟩ := DataW.trod_string Tryz.underlying9 g1
      obtain ⟨s2, e2, _, _⟩ := DataW.trod_string Tryz.underlying9 g2
      simp only [List.cons.injEq, and_true] at e0 e1 e2
      subst e0; subst e1; subst e2
      have k0 := hcell 0 (by omega)
      have k1 := hcell 1 (by omega)
      have k2 := hcell 2 (by omega)
      rw [add_add] at k0 k1 k2
      exact ⟨((z, s1.data.toList), s2), by simpa using k0, by simpa using k1, by simpa using k2⟩
  obtain ⟨q, hq⟩ := choose_lt each
  obtain ⟨h0, _, _⟩ := hq 0 hpos
  have hs := World.cell?_spot h0
  have hlt := World.block_lt_of_cell? W _ h0
  obtain ⟨b, o, spot⟩ := a
  simp [Addr.add] at hs hlt
  subst hs
  refine ⟨b, o, len0, cap0, fun i => (q i).2, (List.range len0).map fun i => (q i).1, _, _, rfl, by simp, hl, hm, fun i hi => ?_, hlt, (Prod.mk.inj hx).1, by simp⟩
  have hi' : i < len0 := by simpa using hi
  obtain ⟨k0, k1, k2⟩ := hq i hi'
  rw [add_plain] at k0 k1 k2
  simp only [List.getElem_map, List.getElem_range]
  exact ⟨k0, k1, k2⟩

set_option maxRecDepth 100000 in
/-- A configuration that is handed in, opened. -/
theorem open_config {H : Type} {enc : TypeId × Value → H} {W : World} {base b0 : Nat} {r : Reach} {sp : Nat → Bool} {held : Bool} {v : Value} {d : DataW H} {p : List MemPlace}
    (hval : Value.okWide Tryz.prog W r b0 23 v) (h : DataW.Trod enc Tryz.prog W base sp held 23 v d p) :
    ∃ a b c : Int, v = .agg #[.int .i64 a, .int .i64 b, .int .i64 c] := by
  have ce : Tryz.prog.cellsOf 23 = 3 := by kernel_rfl
  have c3 : Tryz.prog.cellsOf 3 = 1 := by kernel_rfl
  obtain ⟨cs, rfl, hsz⟩ := okWide_struct Tryz.underlying23 hval
  obtain ⟨fuel, hf⟩ := h
  obtain ⟨y0, y1, y2, k, _, _, g0, g1, g2⟩ := trod_struct3 Tryz.underlying23 hf
  rw [ce] at hsz
  obtain ⟨l⟩ := cs
  match l, hsz with
  | [v0, v1, v2], _ =>
    simp [c3, Value.cells] at g0 g1 g2
    obtain ⟨z0, e0, _, _⟩ := DataW.trod_int Tryz.underlying3 g0
    obtain ⟨z1, e1, _, _⟩ := DataW.trod_int Tryz.underlying3 g1
    obtain ⟨z2, e2, _, _⟩ := DataW.trod_int Tryz.underlying3 g2
    simp only [List.cons.injEq, and_true] at e0 e1 e2
    subst e0; subst e1; subst e2
    exact ⟨z0, z1, z2, rfl⟩

theorem params_read : ∀ t ∈ Tryz.f6.params.toList, Tryz.prog.readableRec t = true ∧ t < Tryz.prog.types.size := by
  rw [Tryz.params6]
  have h : ([23, 24, 3].all fun t => Tryz.prog.readableRec t && decide (t < Tryz.prog.types.size)) = true := by kernel_rfl
  intro t ht
  have := List.all_eq_true.1 h t (by simpa using ht)
  simpa using this

set_option maxRecDepth 100000 in
theorem prefix_lifted (os : Os) (started : os.Started) (H : Type) (enc : TypeId × Value → H) :
    ReturnsInHanded {} Tryz.checked os 6 .any (fun w args => (Rows.prefixSpec.pre enc Tryz.prog Tryz.f6 Rows.prefixRow.domain false w args ∧ laidMetH Tryz.prog Rows.prefixRow.laid w) ∧ sizedMet enc Tryz.prog Tryz.f6 (OpenSpec.ofChange Rows.prefixSpec) false w args)
      (Rows.prefixSpec.post enc Tryz.prog Tryz.f6 false true false false) := by
  refine returnsInHanded_of_change_and (C := Tryz.checked) (X := fun w _ => laidMetH Tryz.prog Rows.prefixRow.laid w) (fun _ _ _ hh h => h.of_heap hh) own started (by kernel_rfl) Tryz.func6
    (ChangeSpec.witness_shaped (enc := enc) (C := Tryz.checked) (os := os) (X := fun w _ => laidMetH Tryz.prog Rows.prefixRow.laid w) false (World.laidAll Tryz.prog os Rows.prefixRow.laid) #[.agg #[.int .i64 0, .int .i64 0, .int .i64 0], .slice none 0 0, .int .i64 0] 8 (World.laidAll_os _ _ _)
      (World.shaped_of_ZipB (by kernel_rfl) (by kernel_rfl)) (by kernel_rfl) (by kernel_rfl) (by kernel_rfl)
      (by rw [MakeChecks.laidMetH_plain _ _ _ (by kernel_rfl)]; exact laidMet_laidAll _ (by kernel_rfl) (by kernel_rfl))) ?_
  intro W base args ds gs before hval0 hW _ hsz hL _
  have hT := laid_holds hL
  have hval : ∀ (j : Nat) t v, Tryz.f6.params[j]? = some t → args[j]? = some v → Value.okWide Tryz.prog W .any base t v := hval0
  have hW' := hW
  obtain ⟨p, q, hA0, hV, hpq, _, _⟩ := hW
  have hA : DataW.TrodAll enc Tryz.prog W 0 (fun _ => true) true Tryz.f6.params.toList args.toList ds p := hA0
  rw [Tryz.params6] at hA hval
  obtain ⟨v0, v1, v2, d0, d1, d2, p0, p1, p2, rfl, rfl, _, h0, h1, h2⟩ := trodAll_three hA
  obtain ⟨rfl, _⟩ := trodVars_none hV
  obtain ⟨a, b, c, rfl⟩ := open_config (hval 0 _ _ rfl rfl) h0
  obtain ⟨x, rfl, _, _, wx⟩ := open_int Tryz.underlying3 (hval 2 _ _ rfl rfl) h2
  have hx := bounds_i64 wx
  have fin : Calls Tryz.prog 6 #[.agg #[.int .i64 a, .int .i64 b, .int .i64 c], v1, .int .i64 x] W fun e w' => e = .returned (.bool true) ∧ Below W.heap.size W w' := by
    rcases open_script (hval 1 _ _ rfl rfl) h1 with ⟨pa, cap, rfl, hpa, hcm⟩ | ⟨sb, so, m, cap, ts, l, elems, spare, rfl, hm, hcap, hcm, hs, hlt, rfl, hel⟩
    · exact Prefix_nil hpa hcm hT hx.1 hx.2
    · have hb : (elems.length + spare.length) * Tryz.prog.bytesOf 50 ≤ reachBytes := sized_slice (j := 1) (t := 24) (e := 50) (elems := elems) (spare := spare) hsz rfl rfl Tryz.underlying24
      rw [show Tryz.prog.bytesOf 50 = 40 by kernel_rfl] at hb
      have := reachBytes_lt
      exact Prefix_some hs hm hcap (by omega) hcm hlt hT hx.1 hx.2
  refine fin.mono fun e W' ⟨he, hw⟩ => ?_
  subst he
  exact ⟨_, rfl, post_of_below laidOut params_read rfl hW' hw (fun _ _ _ => trodAll_mk1 (shut_bool Tryz.underlying4 _)) rfl rfl (ok_one (by kernel_rfl) rfl (okWide_bool_mk Tryz.underlying4 _))⟩

theorem prefix_holds : Rows.PrefixSaid :=
  OpenClaim.holds_of_wide 6 Tryz.f6 rfl rfl rfl rfl rfl rfl rfl ⟨rfl, rfl, rfl, rfl, rfl⟩ rfl rfl rfl rfl rfl (by kernel_rfl) Tryz.func6 (by kernel_rfl)
    (of_decide_eq_true (by kernel_rfl)) (by unfold Func.isWrapper; first | (rw [if_pos (by decide +kernel)]; kernel_rfl) | (rw [if_neg (by decide +kernel)]; exact ⟨rfl, rfl⟩))
    (fun os started H enc _ => prefix_lifted os started H enc)
theorem prefix_card : Rows.PrefixCardSaid :=
  Claim7.holds_tied_plain_at .later [] _ _ _ _ prefix_holds (fun _ h => by cases h) (by kernel_rfl) (fun _ h => by cases h) prefix_row_tie rfl ⟨rfl, rfl⟩ (by kernel_rfl) rfl
    (fun f fn hf hfn => by
      obtain rfl : f = 6 := Option.some.inj ((show Tryz.prog.funcNamed "amend/amendkeep.Prefix" = some 6 by kernel_rfl).symm.trans hf) |>.symm
      obtain rfl : fn = Tryz.f6 := (Option.some.inj (Tryz.func6.symm.trans hfn)).symm
      exact ⟨by kernel_rfl, fun j t ht => by
        rw [Tryz.params6] at ht
        have hm : t ∈ [23, 24, 3] := by simpa using Array.mem_of_getElem? ht
        have hall : ([23, 24, 3].all fun u => !Tryz.prog.wantsStandIn u) = true := by kernel_rfl
        exact (show Tryz.prog.wantsStandIn t = false by simpa using List.all_eq_true.1 hall t hm)⟩)
    (by kernel_rfl)
#print axioms prefix_holds
#print axioms prefix_card
end Go.Proofs.YtlalgnphibjgaaaGreatDoor
