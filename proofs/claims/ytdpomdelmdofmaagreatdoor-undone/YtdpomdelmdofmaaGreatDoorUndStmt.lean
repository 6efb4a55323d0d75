import Derived.Test.YtdpomdelmdofmaaGreatDoorUnd02
import Derived.Test.YtdpomdelmdofmaaGreatDoorUnd37
import Derived.Test.YtdpomdelmdofmaaGreatDoorTie
namespace Go.Proofs.YtdpomdelmdofmaaGreatDoor
open Go.Proofs.Tryz
section
set_option maxRecDepth 100000
open Go.ChangeShapes Go.WideShapes Go.ChangeAt Go.RowKit
theorem QT{H:Type}{enc:TypeId×Value->H}{P:Program}{w:World}{base:Nat}{sp:Nat->Bool}{held:Bool}{t0 t1 t2 t3 t4:TypeId}{args:Array Value}{ds:List (DataW H)}{ps:List MemPlace}(h:DataW.TrodAll enc P w base sp held [t0,t1,t2,t3,t4] args.toList ds ps) :
  ∃v0 v1 v2 v3 v4 d0 d1 d2 d3 d4 p0 p1 p2 p3 p4,args = #[v0,v1,v2,v3,v4]/\ds=[d0,d1,d2,d3,d4]/\ps=p0++(p1++(p2++(p3++p4)))/\DataW.Trod enc P w base sp held t0 v0 d0 p0/\DataW.Trod enc P w base sp held t1 v1 d1 p1/\DataW.Trod enc P w base sp held t2 v2 d2 p2/\DataW.Trod enc P w base sp held t3 v3 d3 p3/\DataW.Trod enc P w base sp held t4 v4 d4 p4:=by
 obtain⟨v0,a1,d0,e1,p0,q1,ha,rfl,rfl,h0,k1⟩:=trodAll_cons h;obtain⟨v1,a2,d1,e2,p1,q2,rfl,rfl,rfl,h1,k2⟩:=trodAll_cons k1;obtain⟨v2,a3,d2,e3,p2,q3,rfl,rfl,rfl,h2,k3⟩:=trodAll_cons k2;obtain⟨v3,a4,d3,e4,p3,q4,rfl,rfl,rfl,h3,k4⟩:=trodAll_cons k3;obtain⟨v4,a5,d4,e5,p4,q5,rfl,rfl,rfl,h4,k5⟩:=trodAll_cons k4;obtain⟨rfl,rfl,rfl⟩:=trodAll_nil k5;exact⟨v0,v1,v2,v3,v4,d0,d1,d2,d3,d4,p0,p1,p2,p3,p4,by cases args;simp_all,rfl,by simp,h0,h1,h2,h3,h4⟩
theorem NW:∀t∈Tryz.f11.params.toList,Tryz.prog.readableRec t=true/\t<Tryz.prog.types.size:=by
 rw[params11];have h:([3,9,4].all fun t=>Tryz.prog.readableRec t && decide (t<Tryz.prog.types.size))=true:=by kernel_rfl
 intro t ht;have:=List.all_eq_true.1 h t (by simpa using ht);simpa using this
theorem LU(os:Os)(started:os.Started)(H:Type)(enc:TypeId×Value->H) :
  ReturnsInHanded {} Tryz.checked os 11 .any (fun w args=>(Rows.undoneSpec.pre enc Tryz.prog Tryz.f11 Rows.undoneRow.domain false w args/\laidMetH Tryz.prog Rows.undoneRow.laid w)/\sizedMet enc Tryz.prog Tryz.f11 (OpenSpec.ofChange Rows.undoneSpec) false w args)
   (Rows.undoneSpec.post enc Tryz.prog Tryz.f11 false true false false):=by
 refine P8 (C:=Tryz.checked) (laid:=Rows.undoneRow.laid) own started (by kernel_rfl) func11
  (ChangeSpec.witness_shaped (enc:=enc) (C:=Tryz.checked) (os:=os) (X:=fun w _=>laidMetH Tryz.prog Rows.undoneRow.laid w) false (World.laidAll Tryz.prog os Rows.undoneRow.laid) #[.int .i64 0,.int .i64 0,.string ⟨#[]⟩,.string ⟨#[]⟩,.bool false] 8 (World.laidAll_os _ _ _)
   (World.shaped_of_ZipB (by kernel_rfl) (by kernel_rfl)) (by kernel_rfl) (by kernel_rfl) (by kernel_rfl)
   (by rw[MakeChecks.laidMetH_plain _ _ _ (by kernel_rfl)];exact laidMet_laidAll _ (by kernel_rfl) (by kernel_rfl))) ?_
 intro W base args ds gs before hval0 hW hsz hL hSh;have hT:=PX hL hSh;have hval:∀ (j:Nat) t v,Tryz.f11.params[j]? = some t->args[j]? = some v->Value.okWide Tryz.prog W .any base t v:=hval0;have hW':=hW;obtain⟨p,q,hA0,hV,hpq,_,_⟩:=hW;have hA:DataW.TrodAll enc Tryz.prog W 0 (fun _=>true) true Tryz.f11.params.toList args.toList ds p:=hA0;rw[params11] at hA hval;obtain⟨v0,v1,v2,v3,v4,d0,d1,d2,d3,d4,p0,p1,p2,p3,p4,rfl,rfl,_,h0,h1,h2,h3,h4⟩:=QT hA;obtain⟨rfl,_⟩:=trodVars_none hV;obtain⟨x,rfl,_,_,wx⟩:=open_int underlying3 (hval 0 _ _ rfl rfl) h0;obtain⟨y,rfl,_,_,wy⟩:=open_int underlying3 (hval 1 _ _ rfl rfl) h1;obtain⟨r,rfl⟩:=okWide_string underlying9 (hval 2 _ _ rfl rfl);obtain⟨s,rfl⟩:=okWide_string underlying9 (hval 3 _ _ rfl rfl);obtain⟨m,rfl⟩:=okWide_bool underlying4 (hval 4 _ _ rfl rfl);have hx:=bounds_i64 wx;have hy:=bounds_i64 wy;have fin:Calls Tryz.prog 11 #[.int .i64 x,.int .i64 y,.string r,.string s,.bool m] W fun e w'=>e = .returned (.bool true)/\Below W.heap.size W w':=QE hx.1 hx.2 hy.1 hy.2 r s m W hT;refine fin.mono fun e W' ⟨he,hw⟩=>?_;subst he;exact⟨_,rfl,LW Wo NW rfl hW' hw (fun _ _ _=>trodAll_mk1 (shut_bool underlying4 _)) rfl rfl (ok_one (by kernel_rfl) rfl (okWide_bool_mk underlying4 _))⟩
theorem Hb:Rows.UndoneSaid :=
 OpenClaim.holds_of_wide 11 Tryz.f11 rfl rfl rfl rfl rfl rfl rfl ⟨rfl,rfl,rfl,rfl,rfl⟩ rfl rfl rfl rfl rfl (by kernel_rfl) func11 LV
  (of_decide_eq_true (by kernel_rfl)) (by unfold Func.isWrapper;first|(rw[if_pos (by decide +kernel)];kernel_rfl)|(rw[if_neg (by decide +kernel)];exact⟨rfl,rfl⟩))
  (fun os started H enc _=>LU os started H enc)
theorem undone_card:Rows.UndoneCardSaid :=
 Claim7.holds_tied_plain_at .later [] _ _ _ _ Hb (fun _ h=>by cases h) (by kernel_rfl) (fun _ h=>by cases h) undone_row_tie rfl ⟨rfl,rfl⟩ Wl rfl
  (fun f fn hf hfn=>by
   obtain rfl:f=11:=Option.some.inj (Mn.symm.trans hf) |>.symm;obtain rfl:fn=Tryz.f11:=(Option.some.inj (Tryz.func11.symm.trans hfn)).symm;exact⟨TY,fun j t ht=>by
    rw[params11] at ht;have hm:t∈[3,9,4]:=by simpa using Array.mem_of_getElem? ht
    have hall:([3,9,4].all fun u=>!Tryz.prog.wantsStandIn u)=true:=by kernel_rfl
    exact (show Tryz.prog.wantsStandIn t=false by simpa using List.all_eq_true.1 hall t hm)⟩)
  NX
#print axioms Hb
#print axioms undone_card
end
end Go.Proofs.YtdpomdelmdofmaaGreatDoor
