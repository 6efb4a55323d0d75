/-
  The statement on loading and telling: for every configuration and every script it answers true, where the tables of the program's packages lie as its text lays them; its script is at most as long as the form's reach lets it be.
-/
import Derived.Test.YtdpomdelmdofmaaGreatDoorPart00
import Derived.Test.YtdpomdelmdofmaaGreatDoorPart03
import Derived.Test.YtdpomdelmdofmaaGreatDoorPart27
import Derived.Test.YtdpomdelmdofmaaGreatDoorPart43
namespace Go.Proofs.YtdpomdelmdofmaaGreatDoor
open Go.ChangeShapes Go.WideShapes Go.ChangeAt Go.RowKit Go.Deep

theorem loads_read : ∀ t ∈ Tryz.f3.params.toList, Tryz.prog.readableRec t = true ∧ t < Tryz.prog.types.size := by
  rw [Tryz.params3]
  have h : ([23, 24].all fun t => Tryz.prog.readableRec t && decide (t < Tryz.prog.types.size)) = true := by kernel_rfl
  intro t ht
  have := List.all_eq_true.1 h t (by simpa using ht)
  simpa using this

set_option maxRecDepth 100000 in
theorem loads_lifted (os : Os) (started : os.Started) (H : Type) (enc : TypeId × Value → H) :
    ReturnsInHanded {} Tryz.checked os 3 .any (fun w args => (Rows.loadsSpec.pre enc Tryz.prog Tryz.f3 Rows.loadsRow.domain false w args ∧ laidMetH Tryz.prog Rows.loadsRow.laid w) ∧ sizedMet enc Tryz.prog Tryz.f3 (OpenSpec.ofChange Rows.loadsSpec) false w args)
      (Rows.loadsSpec.post enc Tryz.prog Tryz.f3 false true false false) := by
  refine handed_row (C := Tryz.checked) (laid := Rows.loadsRow.laid) own started (by kernel_rfl) Tryz.func3
    (ChangeSpec.witness_shaped (enc := enc) (C := Tryz.checked) (os := os) (X := fun w _ => laidMetH Tryz.prog Rows.loadsRow.laid w) false (World.laidAll Tryz.prog os Rows.loadsRow.laid) #[.agg #[.int .i64 0, .int .i64 0, .int .i64 0], .slice none 0 0] 8 (World.laidAll_os _ _ _)
      (World.shaped_of_ZipB (by kernel_rfl) (by kernel_rfl)) (by kernel_rfl) (by kernel_rfl) (by kernel_rfl)
      (by rw [MakeChecks.laidMetH_plain _ _ _ (by kernel_rfl)]; exact laidMet_laidAll _ (by kernel_rfl) (by kernel_rfl))) ?_
  intro W base args ds gs before hval0 hW hsz hL hSh
  have hT := laid_holds hL hSh
  have hval : ∀ (j : Nat) t v, Tryz.f3.params[j]? = some t → args[j]? = some v → Value.okWide Tryz.prog W .any base t v := hval0
  have hW' := hW
  obtain ⟨p, q, hA0, hV, hpq, _, _⟩ := hW
  have hA : DataW.TrodAll enc Tryz.prog W 0 (fun _ => true) true Tryz.f3.params.toList args.toList ds p := hA0
  rw [Tryz.params3] at hA hval
  obtain ⟨v0, v1, d0, d1, p0, p1, rfl, rfl, _, h0, h1⟩ := trodAll_two hA
  obtain ⟨rfl, _⟩ := trodVars_none hV
  obtain ⟨a, b, c, rfl⟩ := open_config (hval 0 _ _ rfl rfl) h0
  have fin : Calls Tryz.prog 3 #[.agg #[.int .i64 a, .int .i64 b, .int .i64 c], v1] W fun e w' => e = .returned (.bool true) ∧ Below W.heap.size W w' := by
    rcases open_script (hval 1 _ _ rfl rfl) h1 with ⟨pa, cap, rfl, hpa, hcm⟩ | ⟨sb, so, m, cap, l, elems, spare, rfl, hm, hcap, hcm, hs, hlt, rfl, hel⟩
    · exact Loads_nil hT
    · have hb : (elems.length + spare.length) * Tryz.prog.bytesOf 49 ≤ reachBytes := sized_slice (j := 1) (t := 24) (e := 49) (elems := elems) (spare := spare) hsz rfl rfl Tryz.underlying24
      rw [show Tryz.prog.bytesOf 49 = 40 by kernel_rfl] at hb
      have := reachBytes_lt
      exact Loads_some hs hm (by omega) hlt hT
  refine fin.mono fun e W' ⟨he, hw⟩ => ?_
  subst he
  exact ⟨_, rfl, post_of_below laidOut loads_read rfl hW' hw (fun _ _ _ => trodAll_mk1 (shut_bool Tryz.underlying4 _)) rfl rfl (ok_one (by kernel_rfl) rfl (okWide_bool_mk Tryz.underlying4 _))⟩

theorem loads_holds : Rows.LoadsSaid :=
  OpenClaim.holds_of_wide 3 Tryz.f3 rfl rfl rfl rfl rfl rfl rfl ⟨rfl, rfl, rfl, rfl, rfl⟩ rfl rfl rfl rfl rfl (by kernel_rfl) Tryz.func3 loads_closed
    (of_decide_eq_true (by kernel_rfl)) (by unfold Func.isWrapper; first | (rw [if_pos (by decide +kernel)]; kernel_rfl) | (rw [if_neg (by decide +kernel)]; exact ⟨rfl, rfl⟩))
    (fun os started H enc _ => loads_lifted os started H enc)
theorem loads_card : Rows.LoadsCardSaid :=
  Claim7.holds_tied_plain_at .later [] _ _ _ _ loads_holds (fun _ h => by cases h) (by kernel_rfl) (fun _ h => by cases h) loads_row_tie rfl ⟨rfl, rfl⟩ main_is rfl
    (fun f fn hf hfn => by
      obtain rfl : f = 3 := Option.some.inj (loads_named.symm.trans hf) |>.symm
      obtain rfl : fn = Tryz.f3 := (Option.some.inj (Tryz.func3.symm.trans hfn)).symm
      exact ⟨looks_is, fun j t ht => by
        rw [Tryz.params3] at ht
        have hm : t ∈ [23, 24] := by simpa using Array.mem_of_getElem? ht
        have hall : ([23, 24].all fun u => !Tryz.prog.wantsStandIn u) = true := by kernel_rfl
        exact (show Tryz.prog.wantsStandIn t = false by simpa using List.all_eq_true.1 hall t hm)⟩)
    loads_goes
#print axioms loads_holds
#print axioms loads_card
end Go.Proofs.YtdpomdelmdofmaaGreatDoor
