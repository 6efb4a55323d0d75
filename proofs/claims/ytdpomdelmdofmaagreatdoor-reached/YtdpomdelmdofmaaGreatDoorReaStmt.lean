import Derived.Test.YtdpomdelmdofmaaGreatDoorRea02
import Derived.Test.YtdpomdelmdofmaaGreatDoorRea49
import Derived.Test.YtdpomdelmdofmaaGreatDoorTie
open Go.Proofs.Tryz renaming prog->AI
open Option.some renaming inj->AS
set_option maxRecDepth 100000
namespace Go.Proofs.YtdpomdelmdofmaaGreatDoor
open Go.Proofs.Tryz Go.ChangeShapes Go.WideShapes Go.ChangeAt Go.RowKit
theorem N8:∀t∈Tryz.f12.params.toList,Tryz.prog.readableRec t=true/\t<Tryz.prog.types.size:=by
 rw[params12];have h:([3,9].all fun t=>Tryz.prog.readableRec t && decide (t<Tryz.prog.types.size))=true:=by kernel_rfl
 grind
theorem Lt(os:Os)(q4:os.Started)(H:Type)(enc:TypeId×Value->H):
  ReturnsInHanded {} Tryz.checked os 12 .any (fun w args=>(Rows.reachedSpec.pre enc AI Tryz.f12 Rows.reachedRow.domain false w args/\laidMetH AI Rows.reachedRow.laid w)/\sizedMet enc AI Tryz.f12 (OpenSpec.ofChange Rows.reachedSpec) false w args)
   (Rows.reachedSpec.post enc AI Tryz.f12 false true false false):=by
 refine R0 (C:=Tryz.checked) (laid:=Rows.reachedRow.laid) own q4 (by kernel_rfl) func12
  (ChangeSpec.witness_shaped (enc:=enc) (C:=Tryz.checked) (os:=os) (X:=fun w _=>laidMetH AI Rows.reachedRow.laid w) false (World.laidAll AI os Rows.reachedRow.laid) #[.int .i64 0,.int .i64 0,.string ⟨#[]⟩,.string ⟨#[]⟩] 8 (World.laidAll_os _ _ _)
   (World.shaped_of_ZipB (by kernel_rfl) (by kernel_rfl)) (by kernel_rfl) (by kernel_rfl) (by kernel_rfl)
   (by rw[MakeChecks.laidMetH_plain _ _ _ (by kernel_rfl)];exact laidMet_laidAll _ (by kernel_rfl) (by kernel_rfl))) ?_
 intro W base args ds gs q6 q5 hW hsz hL q9;have hT:=RN hL q9;have q0:∀ (j:Nat) t v,Tryz.f12.params[j]? = some t->args[j]? = some v->Value.okWide AI W .any base t v:=q5;have qb:=hW;obtain⟨p,q,q8,hV,qd,_,_⟩:=hW;have hA:DataW.TrodAll enc AI W 0 (fun _=>true) true Tryz.f12.params.toList args.toList ds p:=q8;rw[params12] at hA q0;obtain⟨v0,v1,v2,v3,d0,d1,d2,d3,p0,p1,p2,p3,rfl,rfl,_,h0,h1,h2,h3⟩:=trodAll_four hA;obtain⟨rfl,_⟩:=trodVars_none hV;obtain⟨x,rfl,_,_,wx⟩:=open_int underlying3 (q0 0 _ _ rfl rfl) h0;obtain⟨y,rfl,_,_,wy⟩:=open_int underlying3 (q0 1 _ _ rfl rfl) h1;obtain⟨r,rfl⟩:=okWide_string underlying9 (q0 2 _ _ rfl rfl);obtain⟨s,rfl⟩:=okWide_string underlying9 (q0 3 _ _ rfl rfl);have hx:=bounds_i64 wx;have hy:=bounds_i64 wy;have q7:Calls AI 12 #[.int .i64 x,.int .i64 y,.string r,.string s] W fun e w'=>e=.returned (.bool true)/\Below W.heap.size W w':=P9 hx.1 hx.2 hy.1 hy.2 r s W hT;refine q7.mono fun e W' ⟨he,hw⟩=>?_;subst he;exact⟨_,rfl,Nk YU N8 rfl qb hw (fun _ _ _=>trodAll_mk1 (shut_bool underlying4 _)) rfl rfl (ok_one (by kernel_rfl) rfl (okWide_bool_mk underlying4 _))⟩
theorem Ie:Rows.ReachedSaid:=
 OpenClaim.holds_of_wide 12 Tryz.f12 rfl rfl rfl rfl rfl rfl rfl ⟨rfl,rfl,rfl,rfl,rfl⟩ rfl rfl rfl rfl rfl (by kernel_rfl) func12 Lu
  (of_decide_eq_true (by kernel_rfl)) (by unfold Func.isWrapper;first|(rw[if_pos (by decide +kernel)];kernel_rfl)|(rw[if_neg (by decide +kernel)];exact⟨rfl,rfl⟩))
  (fun os q0 H enc _=>Lt os q0 H enc)
theorem reached_card:Rows.ReachedCardSaid:=
 Claim7.holds_tied_plain_at .later [] _ _ _ _ Ie (fun _ h=>by cases h) (by kernel_rfl) (fun _ h=>by cases h) reached_row_tie rfl ⟨rfl,rfl⟩ YQ rfl
  (fun f fn hf q4=>by
   obtain rfl:f=12:=AS (Nj.symm.trans hf) |>.symm;obtain rfl:fn=Tryz.f12:=(AS (Tryz.func12.symm.trans q4)).symm;exact⟨Wq,fun j t ht=>by
    rw[params12] at ht;have hm:t∈[3,9]:=by grind
    have q0:([3,9].all fun u=>!Tryz.prog.wantsStandIn u)=true:=by kernel_rfl
    exact (show Tryz.prog.wantsStandIn t=false by grind)⟩)
  N9
#print axioms Ie
#print axioms reached_card
end Go.Proofs.YtdpomdelmdofmaaGreatDoor
