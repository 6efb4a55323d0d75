/-
  The statement on spellings: for every list of numbers it answers true, where the tables of the program's packages lie as its text lays them.
-/
import Derived.Test.YtdpomdelmdofmaaGreatDoorPart00
import Derived.Test.YtdpomdelmdofmaaGreatDoorPart03
import Derived.Test.YtdpomdelmdofmaaGreatDoorPart02
import Derived.Test.YtdpomdelmdofmaaGreatDoorPart32
import Derived.Test.YtdpomdelmdofmaaGreatDoorTie
import Derived.Test.YtdpomdelmdofmaaGreatDoorCards
import Derived.Deep.Slices
import Derived.SevenTiedAt
namespace Go.Proofs.YtdpomdelmdofmaaGreatDoor
open Go.ChangeShapes Go.WideShapes Go.ChangeAt Go.RowKit Go.Deep

set_option maxRecDepth 100000 in
/-- Numbers that are handed in, opened. -/
theorem open_raw {H : Type} {enc : TypeId × Value → H} {W : World} {base b0 : Nat} {r : Reach} {sp : Nat → Bool} {held : Bool} {v : Value} {d : DataW H} {p : List MemPlace}
    (hval : Value.okWide Tryz.prog W r b0 27 v) (h : DataW.Trod enc Tryz.prog W base sp held 27 v d p) :
    ∃ pa m cap, v = .slice pa m cap ∧ m ≤ cap ∧ cap ≤ maxLen ∧ (0 < m → ∃ rb ro : Nat, pa = some ⟨rb, ro, none⟩ ∧ rb < W.heap.size ∧ ∀ i, i < m → ∃ z : Int, -9223372036854775808 ≤ z ∧ z ≤ 9223372036854775807 ∧ W.cell? ⟨rb, ro + i, none⟩ = some (.int .i64 z)) := by
  obtain ⟨a0, len0, cap0, rfl⟩ := okWide_slice Tryz.underlying27 hval
  obtain ⟨fuel, hf⟩ := h
  have c3 : Tryz.prog.cellsOf 3 = 1 := by kernel_rfl
  rcases open_slice1 Tryz.underlying27 c3 hf with ⟨hcs, _⟩ | ⟨a, len, cap, m, n, V, D, Pl, hcs, hb, hl, hm, hmm, hx, hel⟩
  · simp only [Value.cells, List.cons.injEq, Value.slice.injEq, and_true] at hcs
    obtain ⟨rfl, rfl, rfl⟩ := hcs
    exact ⟨none, 0, 0, rfl, Nat.le_refl _, Nat.zero_le _, fun h => absurd h (Nat.lt_irrefl _)⟩
  simp only [Value.cells, List.cons.injEq, Value.slice.injEq, and_true] at hcs
  obtain ⟨rfl, rfl, rfl⟩ := hcs
  refine ⟨some a, len0, cap0, rfl, hl, hm, fun hpos => ?_⟩
  have hlm : len0 ≤ m := by rw [hmm]; split <;> omega
  have each : ∀ i, i < len0 → ∃ z : Int, -9223372036854775808 ≤ z ∧ z ≤ 9223372036854775807 ∧ W.cell? (a.add i) = some (.int .i64 z) := by
    intro i hi
    obtain ⟨h1, h2⟩ := hel i (by omega)
    obtain ⟨z, e, _, hw⟩ := DataW.trod_int Tryz.underlying3 h2
    have hz := bounds_i64 hw
    simp only [List.cons.injEq, and_true] at e
    exact ⟨z, hz.1, hz.2, by rw [h1, e]⟩
  obtain ⟨z, _, _, h0⟩ := each 0 hpos
  have hs := World.cell?_spot h0
  have hlt := World.block_lt_of_cell? W _ h0
  obtain ⟨b, o, spot⟩ := a
  simp [Addr.add] at hs hlt
  subst hs
  refine ⟨b, o, rfl, hlt, fun i hi => ?_⟩
  have := each i hi
  rwa [add_plain] at this

theorem spelled_read : ∀ t ∈ Tryz.f5.params.toList, Tryz.prog.readableRec t = true ∧ t < Tryz.prog.types.size := by
  rw [Tryz.params5]
  have h : ([27].all fun t => Tryz.prog.readableRec t && decide (t < Tryz.prog.types.size)) = true := by kernel_rfl
  intro t ht
  have := List.all_eq_true.1 h t (by simpa using ht)
  simpa using this

set_option maxRecDepth 100000 in
theorem spelled_lifted (os : Os) (started : os.Started) (H : Type) (enc : TypeId × Value → H) :
    ReturnsInHanded {} Tryz.checked os 5 .any (fun w args => (Rows.spelledSpec.pre enc Tryz.prog Tryz.f5 Rows.spelledRow.domain false w args ∧ laidMetH Tryz.prog Rows.spelledRow.laid w) ∧ sizedMet enc Tryz.prog Tryz.f5 (OpenSpec.ofChange Rows.spelledSpec) false w args)
      (Rows.spelledSpec.post enc Tryz.prog Tryz.f5 false true false false) := by
  refine handed_row (C := Tryz.checked) (laid := Rows.spelledRow.laid) own started (by kernel_rfl) Tryz.func5
    (ChangeSpec.witness_shaped (enc := enc) (C := Tryz.checked) (os := os) (X := fun w _ => laidMetH Tryz.prog Rows.spelledRow.laid w) false (World.laidAll Tryz.prog os Rows.spelledRow.laid) #[.slice none 0 0] 8 (World.laidAll_os _ _ _)
      (World.shaped_of_ZipB (by kernel_rfl) (by kernel_rfl)) (by kernel_rfl) (by kernel_rfl) (by kernel_rfl)
      (by rw [MakeChecks.laidMetH_plain _ _ _ (by kernel_rfl)]; exact laidMet_laidAll _ (by kernel_rfl) (by kernel_rfl))) ?_
  intro W base args ds gs before hval0 hW hsz hL hSh
  have hT := laid_holds hL hSh
  have hval : ∀ (j : Nat) t v, Tryz.f5.params[j]? = some t → args[j]? = some v → Value.okWide Tryz.prog W .any base t v := hval0
  have hW' := hW
  obtain ⟨p, q, hA0, hV, hpq, _, _⟩ := hW
  have hA : DataW.TrodAll enc Tryz.prog W 0 (fun _ => true) true Tryz.f5.params.toList args.toList ds p := hA0
  rw [Tryz.params5] at hA hval
  obtain ⟨v0, d0, rfl, rfl, h0⟩ := trodAll_one hA
  obtain ⟨rfl, _⟩ := trodVars_none hV
  obtain ⟨pa, m, cap, rfl, h1, h2, h3⟩ := open_raw (hval 0 _ _ rfl rfl) h0
  have fin : Calls Tryz.prog 5 #[.slice pa m cap] W fun e w' => e = .returned (.bool true) ∧ Below W.heap.size W w' := Spelled_any h1 h2 h3 hT
  refine fin.mono fun e W' ⟨he, hw⟩ => ?_
  subst he
  exact ⟨_, rfl, post_of_below laidOut spelled_read rfl hW' hw (fun _ _ _ => trodAll_mk1 (shut_bool Tryz.underlying4 _)) rfl rfl (ok_one (by kernel_rfl) rfl (okWide_bool_mk Tryz.underlying4 _))⟩

theorem spelled_holds : Rows.SpelledSaid :=
  OpenClaim.holds_of_wide 5 Tryz.f5 rfl rfl rfl rfl rfl rfl rfl ⟨rfl, rfl, rfl, rfl, rfl⟩ rfl rfl rfl rfl rfl (by kernel_rfl) Tryz.func5 spelled_closed
    (of_decide_eq_true (by kernel_rfl)) (by unfold Func.isWrapper; first | (rw [if_pos (by decide +kernel)]; kernel_rfl) | (rw [if_neg (by decide +kernel)]; exact ⟨rfl, rfl⟩))
    (fun os started H enc _ => spelled_lifted os started H enc)
theorem spelled_card : Rows.SpelledCardSaid :=
  Claim7.holds_tied_plain_at .later [] _ _ _ _ spelled_holds (fun _ h => by cases h) (by kernel_rfl) (fun _ h => by cases h) spelled_row_tie rfl ⟨rfl, rfl⟩ main_is rfl
    (fun f fn hf hfn => by
      obtain rfl : f = 5 := Option.some.inj (spelled_named.symm.trans hf) |>.symm
      obtain rfl : fn = Tryz.f5 := (Option.some.inj (Tryz.func5.symm.trans hfn)).symm
      exact ⟨looks_is, fun j t ht => by
        rw [Tryz.params5] at ht
        have hm : t ∈ [27] := by simpa using Array.mem_of_getElem? ht
        have hall : ([27].all fun u => !Tryz.prog.wantsStandIn u) = true := by kernel_rfl
        exact (show Tryz.prog.wantsStandIn t = false by simpa using List.all_eq_true.1 hall t hm)⟩)
    spelled_goes
#print axioms spelled_holds
#print axioms spelled_card
end Go.Proofs.YtdpomdelmdofmaaGreatDoor
