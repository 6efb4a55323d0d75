/-
  The statement on merge patches that lead somewhere: for every depth, every document and every merge patch it answers true, where the tables of the program's packages lie as its text lays them.
-/
import Derived.Test.YtdpomdelmdofmaaGreatDoorMrg00
import Derived.Test.YtdpomdelmdofmaaGreatDoorMrg02
import Derived.Test.YtdpomdelmdofmaaGreatDoorMrg01
import Derived.Test.YtdpomdelmdofmaaGreatDoorMrg44
import Derived.Test.YtdpomdelmdofmaaGreatDoorTie
import Derived.Test.YtdpomdelmdofmaaGreatDoorCards
import Derived.SevenTiedAt
namespace Go.Proofs.YtdpomdelmdofmaaGreatDoor
section
set_option maxRecDepth 100000
open Go.ChangeShapes Go.WideShapes Go.ChangeAt Go.RowKit
theorem merged_read:∀t∈Tryz.f13.params.toList,Tryz.prog.readableRec t=true∧t<Tryz.prog.types.size:=by
 rw[Tryz.params13]
 have h:([3,9].all fun t=>Tryz.prog.readableRec t && decide (t<Tryz.prog.types.size))=true:=by kernel_rfl
 intro t ht
 have:=List.all_eq_true.1 h t (by simpa using ht)
 simpa using this
theorem merged_lifted (os:Os) (started:os.Started) (H:Type) (enc:TypeId×Value→H) :
  ReturnsInHanded {} Tryz.checked os 13 .any (fun w args=>(Rows.mergedSpec.pre enc Tryz.prog Tryz.f13 Rows.mergedRow.domain false w args∧laidMetH Tryz.prog Rows.mergedRow.laid w)∧sizedMet enc Tryz.prog Tryz.f13 (OpenSpec.ofChange Rows.mergedSpec) false w args)
   (Rows.mergedSpec.post enc Tryz.prog Tryz.f13 false true false false):=by
 refine handed_row (C:=Tryz.checked) (laid:=Rows.mergedRow.laid) own started (by kernel_rfl) Tryz.func13
  (ChangeSpec.witness_shaped (enc:=enc) (C:=Tryz.checked) (os:=os) (X:=fun w _=>laidMetH Tryz.prog Rows.mergedRow.laid w) false (World.laidAll Tryz.prog os Rows.mergedRow.laid) #[.int .i64 0,.string ⟨#[]⟩,.string ⟨#[]⟩] 8 (World.laidAll_os _ _ _)
   (World.shaped_of_ZipB (by kernel_rfl) (by kernel_rfl)) (by kernel_rfl) (by kernel_rfl) (by kernel_rfl)
   (by rw[MakeChecks.laidMetH_plain _ _ _ (by kernel_rfl)];exact laidMet_laidAll _ (by kernel_rfl) (by kernel_rfl))) ?_
 intro W base args ds gs before hval0 hW hsz hL hSh
 have hT:=laid_holds hL hSh
 have hval:∀ (j:Nat) t v,Tryz.f13.params[j]? = some t→args[j]? = some v→Value.okWide Tryz.prog W .any base t v:=hval0
 have hW':=hW
 obtain⟨p,q,hA0,hV,hpq,_,_⟩:=hW
 have hA:DataW.TrodAll enc Tryz.prog W 0 (fun _=>true) true Tryz.f13.params.toList args.toList ds p:=hA0
 rw[Tryz.params13] at hA hval
 obtain⟨v0,v1,v2,d0,d1,d2,p0,p1,p2,rfl,rfl,_,h0,h1,h2⟩:=trodAll_three hA
 obtain⟨rfl,_⟩:=trodVars_none hV
 obtain⟨x,rfl,_,_,wx⟩:=open_int Tryz.underlying3 (hval 0 _ _ rfl rfl) h0
 obtain⟨r,rfl⟩:=okWide_string Tryz.underlying9 (hval 1 _ _ rfl rfl)
 obtain⟨s,rfl⟩:=okWide_string Tryz.underlying9 (hval 2 _ _ rfl rfl)
 have hx:=bounds_i64 wx
 have fin:Calls Tryz.prog 13 #[.int .i64 x,.string r,.string s] W fun e w'=>e = .returned (.bool true)∧Below W.heap.size W w':=Merged_any hx.1 hx.2 r s W hT
 refine fin.mono fun e W' ⟨he,hw⟩=>?_
 subst he
 exact⟨_,rfl,post_of_below laidOut merged_read rfl hW' hw (fun _ _ _=>trodAll_mk1 (shut_bool Tryz.underlying4 _)) rfl rfl (ok_one (by kernel_rfl) rfl (okWide_bool_mk Tryz.underlying4 _))⟩
theorem merged_holds:Rows.MergedSaid :=
 OpenClaim.holds_of_wide 13 Tryz.f13 rfl rfl rfl rfl rfl rfl rfl ⟨rfl,rfl,rfl,rfl,rfl⟩ rfl rfl rfl rfl rfl (by kernel_rfl) Tryz.func13 merged_closed
  (of_decide_eq_true (by kernel_rfl)) (by unfold Func.isWrapper;first|(rw[if_pos (by decide +kernel)];kernel_rfl)|(rw[if_neg (by decide +kernel)];exact⟨rfl,rfl⟩))
  (fun os started H enc _=>merged_lifted os started H enc)
theorem merged_card:Rows.MergedCardSaid :=
 Claim7.holds_tied_plain_at .later [] _ _ _ _ merged_holds (fun _ h=>by cases h) (by kernel_rfl) (fun _ h=>by cases h) merged_row_tie rfl ⟨rfl,rfl⟩ main_is rfl
  (fun f fn hf hfn=>by
   obtain rfl:f=13:=Option.some.inj (merged_named.symm.trans hf) |>.symm
   obtain rfl:fn=Tryz.f13:=(Option.some.inj (Tryz.func13.symm.trans hfn)).symm
   exact⟨looks_is,fun j t ht=>by
    rw[Tryz.params13] at ht
    have hm:t∈[3,9]:=by simpa using Array.mem_of_getElem? ht
    have hall:([3,9].all fun u=>!Tryz.prog.wantsStandIn u)=true:=by kernel_rfl
    exact (show Tryz.prog.wantsStandIn t=false by simpa using List.all_eq_true.1 hall t hm)⟩)
  merged_goes
#print axioms merged_holds
#print axioms merged_card
end
end Go.Proofs.YtdpomdelmdofmaaGreatDoor
