import Derived.Test.YtdpomdelmdofmaaGreatDoorP27
import Derived.Test.YtdpomdelmdofmaaGreatDoorP37
set_option maxRecDepth 100000
namespace Go.Proofs.YtdpomdelmdofmaaGreatDoor
open Go.Proofs.Tryz Go.ChangeShapes Go.WideShapes Go.ChangeAt Go.RowKit Go.Deep
theorem Py:∀t∈Tryz.f8.params.toList,Tryz.prog.readableRec t=true/\t<Tryz.prog.types.size:=by
 rw[params8];have h:([23,24].all λt=>Tryz.prog.readableRec t && decide (t<Tryz.prog.types.size))=true:=by kernel_rfl
 intro t ht;have:=List.all_eq_true.1 h t (by simpa using ht);simpa using this
theorem OH(os:Os){H:Type}(enc:TypeId×Value->H):∃places,DataW.whole enc Tryz.prog ((World.laidAll Tryz.prog os Rows.patchesUptoRow.laid).forCall (λ_ _=>0) ⟨#[],#[.agg #[.int .i64 0,.int .i64 0,.int .i64 0],.slice none 0 0],[]⟩).memory Tryz.f8.params.toList (Rows.OpenSpec.upto Rows.patchesSpec).vars false #[.agg #[.int .i64 0,.int .i64 0,.int .i64 0],.slice none 0 0].toList 8=some ([.agg [.lit (.int .i64 0),.lit (.int .i64 0),.lit (.int .i64 0)],.nil],[],places):=
 ⟨[],by kernel_rfl⟩
theorem MR(os:Os)(q0:os.Started)(H:Type)(enc:TypeId×Value->H)(F:Stop.Interp):
  ReturnsInHanded {} Tryz.checked os 8 .any ((Rows.OpenSpec.upto Rows.patchesSpec).preRow enc Tryz.prog Tryz.f8 Rows.patchesUptoRow.domain false Rows.patchesUptoRow.laid) (((Rows.OpenSpec.upto Rows.patchesSpec).at F).post enc Tryz.prog Tryz.f8 false true false false):=by
 obtain⟨places,hx⟩:=OH os enc;refine returnsInHanded_of_row (C:=Tryz.checked) (s:=Rows.OpenSpec.upto Rows.patchesSpec) own q0 (by kernel_rfl) func8
  ⟨World.laidAll Tryz.prog os Rows.patchesUptoRow.laid,λ_ _=>0,⟨#[],#[.agg #[.int .i64 0,.int .i64 0,.int .i64 0],.slice none 0 0],[]⟩,World.laidAll_os _ _ _,World.shaped_of_ZipB (by kernel_rfl) (by kernel_rfl),rfl,(Input.okWide_of_okWideB (by kernel_rfl)).2,
   OpenSpec.preRow_of_cond 8 hx (by kernel_rfl) (λk hk=>by cases hk;kernel_rfl) (by kernel_rfl) (by rw[MakeChecks.laidMetH_plain _ _ _ (by kernel_rfl)];exact laidMet_laidAll _ (by kernel_rfl) (by kernel_rfl)),by
    simp only[Assume.holds];exact⟨by simp,by simp,(λh=>nomatch h),by simp,by simp⟩⟩ ?_
 intro W base args ds gs q7 q6 hW _ q5 _ hL qb _;have hk:Rows.uptoBulkAll (ds++gs)<=1048576:=of_decide_eq_true (q5 _ rfl);have hT:=Ux hL qb;have q4:∀(j:Nat) t v,Tryz.f8.params[j]?=some t->args[j]?=some v->Value.okWide Tryz.prog W .any base t v:=q6;have qd:=hW;obtain⟨p,q,q9,hV,qk,_,_⟩:=hW;have hA:DataW.TrodAll enc Tryz.prog W 0 (λ_=>true) true Tryz.f8.params.toList args.toList ds p:=q9;rw[params8]at hA q4;obtain⟨v0,v1,d0,d1,p0,p1,rfl,rfl,_,h0,h1⟩:=trodAll_two hA;obtain⟨rfl,_⟩:=trodVars_none hV;obtain⟨a,b,c,rfl⟩:=Rj (q4 0 _ _ rfl rfl) h0;have q8:CB 8 #[.agg #[.int .i64 a,.int .i64 b,.int .i64 c],v1] W (.bool true):=by
  rcases Ri (q4 1 _ _ rfl rfl) h1 with⟨pa,cap,rfl,qj,qf⟩|⟨sb,so,m,cap,l,elems,spare,rfl,hm,qe,qf,hs,hlt,rfl,qi⟩
  .exact RK hT
  .simp only[Rows.uptoBulkAll,Rows.uptoBulk,List.append_nil]at hk;have qg:=bU elems;have qh:=Pk h1 hs hm;exact QN hs hm (by omega) (λo ho=>Nat.le_trans (qh o ho) (by omega)) hlt hT
 refine q8.mono λe W' ⟨he,hw⟩=>?_;subst he;show∃v,_=Ending.returned v/\Rows.patchesSpec.post enc Tryz.prog Tryz.f8 false true false false W _ v W';exact⟨_,rfl,OG gJ Py rfl qd hw (λ_ _ _=>trodAll_mk1 (shut_bool underlying4 _)) rfl rfl (ok_one (by kernel_rfl) rfl (okWide_bool_mk underlying4 _))⟩
theorem JD:Rows.PatchesUptoSaid:=
 OpenClaim.holds_of_cond 8 Tryz.f8 rfl rfl rfl rfl rfl rfl rfl ⟨rfl,rfl,rfl,rfl,rfl⟩ rfl rfl rfl rfl rfl (by kernel_rfl) func8 MS
  (of_decide_eq_true (by kernel_rfl)) (by unfold Func.isWrapper;first|(rw[if_pos (by decide +kernel)];kernel_rfl)|(rw[if_neg (by decide +kernel)];exact⟨rfl,rfl⟩))
  (λos q0 H enc _ F=>by rw[OpenClaim.pre_eq_preRow];exact MR os q0 H enc F)
theorem patches_card:Rows.PatchesUptoCardSaid:=
 Claim7.holds_tied_plain_at .later [] _ _ _ _ JD (λ_ h=>by cases h) (by kernel_rfl) (λ_ h=>by cases h) patchesUpto_row_tie rfl ⟨rfl,rfl⟩ gC rfl
  (λf fn hf q4=>by
   obtain rfl:f=8:=Option.some.inj (OI.symm.trans hf) |>.symm;obtain rfl:fn=Tryz.f8:=(Option.some.inj (Tryz.func8.symm.trans q4)).symm;exact⟨Zy,λj t ht=>by
    rw[params8]at ht;have hm:t∈[23,24]:=by simpa using Array.mem_of_getElem? ht
    have q0:([23,24].all λu=>!Tryz.prog.wantsStandIn u)=true:=by kernel_rfl
    exact(show Tryz.prog.wantsStandIn t=false by simpa using List.all_eq_true.1 q0 t hm)⟩)
  Pz
#print axioms JD
#print axioms patches_card
