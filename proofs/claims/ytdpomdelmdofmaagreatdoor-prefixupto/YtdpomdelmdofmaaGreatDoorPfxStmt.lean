import Derived.Test.YtdpomdelmdofmaaGreatDoorPfx02
import Derived.Test.YtdpomdelmdofmaaGreatDoorPfx47
set_option maxRecDepth 100000
namespace Go.Proofs.YtdpomdelmdofmaaGreatDoor
open Go.Proofs.Tryz Go.ChangeShapes Go.WideShapes Go.ChangeAt Go.RowKit Go.Deep
theorem N7:∀t∈Tryz.f6.params.toList,Tryz.prog.readableRec t=true/\t<Tryz.prog.types.size:=by
 rw[params6];have h:([23,24,3].all fun t=>Tryz.prog.readableRec t && decide (t<Tryz.prog.types.size))=true:=by kernel_rfl
 intro t ht;have:=List.all_eq_true.1 h t (by simpa using ht);simpa using this
theorem MC(os:Os){H:Type}(enc:TypeId×Value->H):∃places,DataW.whole enc Tryz.prog ((World.laidAll Tryz.prog os Rows.prefixUptoRow.laid).forCall (fun _ _=>0) ⟨#[],#[.agg #[.int .i64 0,.int .i64 0,.int .i64 0],.slice none 0 0,.int .i64 0],[]⟩).memory Tryz.f6.params.toList (Rows.OpenSpec.upto Rows.prefixSpec).vars false #[.agg #[.int .i64 0,.int .i64 0,.int .i64 0],.slice none 0 0,.int .i64 0].toList 8=some ([.agg [.lit (.int .i64 0),.lit (.int .i64 0),.lit (.int .i64 0)],.nil,.lit (.int .i64 0)],[],places):=
 ⟨[],by kernel_rfl⟩
theorem LJ(os:Os)(q4:os.Started)(H:Type)(enc:TypeId×Value->H)(F:Stop.Interp):
  ReturnsInHanded {} Tryz.checked os 6 .any ((Rows.OpenSpec.upto Rows.prefixSpec).preRow enc Tryz.prog Tryz.f6 Rows.prefixUptoRow.domain false Rows.prefixUptoRow.laid) (((Rows.OpenSpec.upto Rows.prefixSpec).at F).post enc Tryz.prog Tryz.f6 false true false false):=by
 obtain⟨places,hx⟩:=MC os enc;refine returnsInHanded_of_row (C:=Tryz.checked) (s:=Rows.OpenSpec.upto Rows.prefixSpec) own q4 (by kernel_rfl) func6
  ⟨World.laidAll Tryz.prog os Rows.prefixUptoRow.laid,fun _ _=>0,⟨#[],#[.agg #[.int .i64 0,.int .i64 0,.int .i64 0],.slice none 0 0,.int .i64 0],[]⟩,World.laidAll_os _ _ _,World.shaped_of_ZipB (by kernel_rfl) (by kernel_rfl),rfl,(Input.okWide_of_okWideB (by kernel_rfl)).2,
   OpenSpec.preRow_of_cond 8 hx (by kernel_rfl) (fun k hk=>by cases hk;kernel_rfl) (by kernel_rfl) (by rw[MakeChecks.laidMetH_plain _ _ _ (by kernel_rfl)];exact laidMet_laidAll _ (by kernel_rfl) (by kernel_rfl)),by
    simp only[Assume.holds];exact⟨by simp,by simp,(fun h=>nomatch h),by simp,by simp⟩⟩ ?_
 intro W base args ds gs q7 q6 hW _ q5 _ hL qe _;have hk:Rows.uptoBulkAll (ds++gs)<=1048576:=of_decide_eq_true (q5 _ rfl);have hT:=PY hL qe;have q0:∀ (j:Nat) t v,Tryz.f6.params[j]? = some t->args[j]? = some v->Value.okWide Tryz.prog W .any base t v:=q6;have qf:=hW;obtain⟨p,q,qd,hV,qk,_,_⟩:=hW;have hA:DataW.TrodAll enc Tryz.prog W 0 (fun _=>true) true Tryz.f6.params.toList args.toList ds p:=qd;rw[params6] at hA q0;obtain⟨v0,v1,v2,d0,d1,d2,p0,p1,p2,rfl,rfl,_,h0,h1,h2⟩:=trodAll_three hA;obtain⟨rfl,_⟩:=trodVars_none hV;obtain⟨a,b,c,rfl⟩:=Oc (q0 0 _ _ rfl rfl) h0;obtain⟨x,rfl,_,_,wx⟩:=open_int underlying3 (q0 2 _ _ rfl rfl) h2;have hx:=bounds_i64 wx;have qb:Calls Tryz.prog 6 #[.agg #[.int .i64 a,.int .i64 b,.int .i64 c],v1,.int .i64 x] W fun e w'=>e=.returned (.bool true)/\Below W.heap.size W w':=by
  rcases Ob (q0 1 _ _ rfl rfl) h1 with⟨pa,cap,rfl,qh,q9⟩|⟨sb,so,m,cap,l,elems,spare,rfl,hm,q8,q9,hs,hlt,rfl,qj⟩
  ·exact QG qh q9 hT hx.1 hx.2
  ·simp only[Rows.uptoBulkAll,Rows.uptoBulk,List.append_nil] at hk;have qg:=U0 elems;have qi:=Mw h1 hs hm;exact OE hs (Rn fun o ho=>Nat.le_trans (qi o ho) (by omega)) hm q8 (by omega) q9 hlt hT hx.1 hx.2
 refine qb.mono fun e W' ⟨he,hw⟩=>?_;subst he;show ∃v,_=Ending.returned v/\Rows.prefixSpec.post enc Tryz.prog Tryz.f6 false true false false W _ v W';exact⟨_,rfl,LM Wu N7 rfl qf hw (fun _ _ _=>trodAll_mk1 (shut_bool underlying4 _)) rfl rfl (ok_one (by kernel_rfl) rfl (okWide_bool_mk underlying4 _))⟩
theorem Hg:Rows.PrefixUptoSaid:=
 OpenClaim.holds_of_cond 6 Tryz.f6 rfl rfl rfl rfl rfl rfl rfl ⟨rfl,rfl,rfl,rfl,rfl⟩ rfl rfl rfl rfl rfl (by kernel_rfl) func6 LK
  (of_decide_eq_true (by kernel_rfl)) (by unfold Func.isWrapper;first|(rw[if_pos (by decide +kernel)];kernel_rfl)|(rw[if_neg (by decide +kernel)];exact⟨rfl,rfl⟩))
  (fun os q0 H enc _ F=>by rw[OpenClaim.pre_eq_preRow];exact LJ os q0 H enc F)
theorem prefix_card:Rows.PrefixUptoCardSaid:=
 Claim7.holds_tied_plain_at .later [] _ _ _ _ Hg (fun _ h=>by cases h) (by kernel_rfl) (fun _ h=>by cases h) prefixUpto_row_tie rfl ⟨rfl,rfl⟩ Wq rfl
  (fun f fn hf q4=>by
   obtain rfl:f=6:=Option.some.inj (MD.symm.trans hf) |>.symm;obtain rfl:fn=Tryz.f6:=(Option.some.inj (Tryz.func6.symm.trans q4)).symm;exact⟨Uc,fun j t ht=>by
    rw[params6] at ht;have hm:t∈[23,24,3]:=by simpa using Array.mem_of_getElem? ht
    have q0:([23,24,3].all fun u=>!Tryz.prog.wantsStandIn u)=true:=by kernel_rfl
    exact (show Tryz.prog.wantsStandIn t=false by simpa using List.all_eq_true.1 q0 t hm)⟩)
  N8
#print axioms Hg
#print axioms prefix_card
end Go.Proofs.YtdpomdelmdofmaaGreatDoor
