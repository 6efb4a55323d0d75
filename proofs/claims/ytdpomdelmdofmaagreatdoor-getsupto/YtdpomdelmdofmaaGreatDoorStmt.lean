/-
  The statement on getting and testing, in its second form: for every configuration and every script of bulk at most 1048576 it answers true, where the tables of the program's packages lie as its text lays them.
-/
import Derived.Test.YtdpomdelmdofmaaGreatDoorPart00
import Derived.Test.YtdpomdelmdofmaaGreatDoorPart03
import Derived.Test.YtdpomdelmdofmaaGreatDoorPart27
import Derived.Test.YtdpomdelmdofmaaGreatDoorPart43
import Derived.Test.YtdpomdelmdofmaaGreatDoorPart44
import Derived.Test.YtdpomdelmdofmaaGreatDoorPart54
namespace Go.Proofs.YtdpomdelmdofmaaGreatDoor
open Go.ChangeShapes Go.WideShapes Go.ChangeAt Go.RowKit Go.Deep
theorem gets_read : ∀ t ∈ Tryz.f7.params.toList, Tryz.prog.readableRec t = true ∧ t < Tryz.prog.types.size := by
 rw [Tryz.params7]
 have h : ([23, 24].all fun t => Tryz.prog.readableRec t && decide (t < Tryz.prog.types.size)) = true := by kernel_rfl
 intro t ht
 have := List.all_eq_true.1 h t (by simpa using ht)
 simpa using this
theorem gets_whole (os : Os) {H : Type} (enc : TypeId × Value → H) : ∃ places, DataW.whole enc Tryz.prog ((World.laidAll Tryz.prog os Rows.getsUptoRow.laid).forCall (fun _ _ => 0) ⟨#[], #[.agg #[.int .i64 0, .int .i64 0, .int .i64 0], .slice none 0 0], []⟩).memory Tryz.f7.params.toList (Rows.OpenSpec.upto Rows.getsSpec).vars false #[.agg #[.int .i64 0, .int .i64 0, .int .i64 0], .slice none 0 0].toList 8 = some ([.agg [.lit (.int .i64 0), .lit (.int .i64 0), .lit (.int .i64 0)], .nil], [], places) :=
 ⟨[], by kernel_rfl⟩
set_option maxRecDepth 100000 in
theorem gets_lifted (os : Os) (started : os.Started) (H : Type) (enc : TypeId × Value → H) (F : Stop.Interp) :
  ReturnsInHanded {} Tryz.checked os 7 .any ((Rows.OpenSpec.upto Rows.getsSpec).preRow enc Tryz.prog Tryz.f7 Rows.getsUptoRow.domain false Rows.getsUptoRow.laid) (((Rows.OpenSpec.upto Rows.getsSpec).at F).post enc Tryz.prog Tryz.f7 false true false false) := by
 obtain ⟨places, hx⟩ := gets_whole os enc
 refine returnsInHanded_of_row (C := Tryz.checked) (s := Rows.OpenSpec.upto Rows.getsSpec) own started (by kernel_rfl) Tryz.func7
  ⟨World.laidAll Tryz.prog os Rows.getsUptoRow.laid, fun _ _ => 0, ⟨#[], #[.agg #[.int .i64 0, .int .i64 0, .int .i64 0], .slice none 0 0], []⟩, World.laidAll_os _ _ _, World.shaped_of_ZipB (by kernel_rfl) (by kernel_rfl), rfl, (Input.okWide_of_okWideB (by kernel_rfl)).2,
   OpenSpec.preRow_of_cond 8 hx (by kernel_rfl) (fun k hk => by cases hk; kernel_rfl) (by kernel_rfl) (by rw [MakeChecks.laidMetH_plain _ _ _ (by kernel_rfl)]; exact laidMet_laidAll _ (by kernel_rfl) (by kernel_rfl)), by
    simp only [Assume.holds]
    exact ⟨by simp, by simp, (fun h => nomatch h), by simp, by simp⟩⟩ ?_
 intro W base args ds gs before hval0 hW _ hcond _ hL hSh _
 have hk : Rows.uptoBulkAll (ds ++ gs) ≤ 1048576 := of_decide_eq_true (hcond _ rfl)
 have hT := laid_holds hL hSh
 have hval : ∀ (j : Nat) t v, Tryz.f7.params[j]? = some t → args[j]? = some v → Value.okWide Tryz.prog W .any base t v := hval0
 have hW' := hW
 obtain ⟨p, q, hA0, hV, hpq, _, _⟩ := hW
 have hA : DataW.TrodAll enc Tryz.prog W 0 (fun _ => true) true Tryz.f7.params.toList args.toList ds p := hA0
 rw [Tryz.params7] at hA hval
 obtain ⟨v0, v1, d0, d1, p0, p1, rfl, rfl, _, h0, h1⟩ := trodAll_two hA
 obtain ⟨rfl, _⟩ := trodVars_none hV
 obtain ⟨a, b, c, rfl⟩ := open_config (hval 0 _ _ rfl rfl) h0
 have fin : Calls Tryz.prog 7 #[.agg #[.int .i64 a, .int .i64 b, .int .i64 c], v1] W fun e w' => e = .returned (.bool true) ∧ Below W.heap.size W w' := by
  rcases open_script (hval 1 _ _ rfl rfl) h1 with ⟨pa, cap, rfl, hpa, hcm⟩ | ⟨sb, so, m, cap, l, elems, spare, rfl, hm, hcap, hcm, hs, hlt, rfl, hel⟩
  ·exact Gets_nil hT
  ·simp only [Rows.uptoBulkAll, Rows.uptoBulk, List.append_nil] at hk
   have hlen := bulk_len elems
   have hsm := script_small h1 hs hm
   exact Gets_some hs hm (by omega) (fun o ho => Nat.le_trans (hsm o ho) (by omega)) hlt hT
 refine fin.mono fun e W' ⟨he, hw⟩ => ?_
 subst he
 show ∃ v, _ = Ending.returned v ∧ Rows.getsSpec.post enc Tryz.prog Tryz.f7 false true false false W _ v W'
 exact ⟨_, rfl, post_of_below laidOut gets_read rfl hW' hw (fun _ _ _ => trodAll_mk1 (shut_bool Tryz.underlying4 _)) rfl rfl (ok_one (by kernel_rfl) rfl (okWide_bool_mk Tryz.underlying4 _))⟩
theorem gets_holds : Rows.GetsUptoSaid :=
 OpenClaim.holds_of_cond 7 Tryz.f7 rfl rfl rfl rfl rfl rfl rfl ⟨rfl, rfl, rfl, rfl, rfl⟩ rfl rfl rfl rfl rfl (by kernel_rfl) Tryz.func7 gets_closed
  (of_decide_eq_true (by kernel_rfl)) (by unfold Func.isWrapper; first | (rw [if_pos (by decide +kernel)]; kernel_rfl) | (rw [if_neg (by decide +kernel)]; exact ⟨rfl, rfl⟩))
  (fun os started H enc _ F => by rw [OpenClaim.pre_eq_preRow]; exact gets_lifted os started H enc F)
theorem gets_card : Rows.GetsUptoCardSaid :=
 Claim7.holds_tied_plain_at .later [] _ _ _ _ gets_holds (fun _ h => by cases h) (by kernel_rfl) (fun _ h => by cases h) getsUpto_row_tie rfl ⟨rfl, rfl⟩ main_is rfl
  (fun f fn hf hfn => by
   obtain rfl : f = 7 := Option.some.inj (gets_named.symm.trans hf) |>.symm
   obtain rfl : fn = Tryz.f7 := (Option.some.inj (Tryz.func7.symm.trans hfn)).symm
   exact ⟨looks_is, fun j t ht => by
    rw [Tryz.params7] at ht
    have hm : t ∈ [23, 24] := by simpa using Array.mem_of_getElem? ht
    have hall : ([23, 24].all fun u => !Tryz.prog.wantsStandIn u) = true := by kernel_rfl
    exact (show Tryz.prog.wantsStandIn t = false by simpa using List.all_eq_true.1 hall t hm)⟩)
  gets_goes
#print axioms gets_holds
#print axioms gets_card
end Go.Proofs.YtdpomdelmdofmaaGreatDoor
