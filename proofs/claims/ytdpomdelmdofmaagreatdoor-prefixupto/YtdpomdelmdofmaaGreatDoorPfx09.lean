import Derived.Test.YtdpomdelmdofmaaGreatDoorPfx06
open Go.Proofs.Tryz renaming prog->AI
open Go renaming bodyPost_ret->AS,results->A1,Calls->A3,World->CL
open List renaming length_tail->AT,length_cons->A4
open UInt8 renaming toNat_inj->A2
open Go.Lib renaming hasPrefix->A5
open Or renaming inr->A6,inl->CR
open ByteArray renaming ext->Bs
open Go.Instr renaming index->BY
open Go.Calls renaming quiet_of_same->CD
set_option maxHeartbeats 4000000
namespace Go.Proofs.YtdpomdelmdofmaaGreatDoor
open Go.Proofs.Tryz Go.RowKit
variable{w:CL}{R:Nat}{t:ByteArray}{l:By}{tw:Bool}{dp fr:Int}
def Cz(j:Nat):By:=aK.getD j []
theorem Vo(w:CL):(BY 165 (.agg Cq) (.int .i64 0)).run AI w=.ok (.string ⟨#[110,117,108,108]⟩) w:=by kernel_rfl
theorem Vn(w:CL):(BY 165 (.agg Cq) (.int .i64 1)).run AI w=.ok (.string ⟨#[116,114,117,101]⟩) w:=by kernel_rfl
theorem Vm(w:CL):(BY 165 (.agg Cq) (.int .i64 2)).run AI w=.ok (.string ⟨#[102,97,108,115,101]⟩) w:=by kernel_rfl
theorem Th(j:Nat)(hj:j<3)(w:CL):(BY 165 (.agg Cq) (.int .i64 j)).run AI w=.ok (.string ⟨(Cz j).toArray⟩) w:=by
 match j,hj with
 | 0,_=>exact Vo w
 | 1,_=>exact Vn w
 | 2,_=>exact Vm w
theorem QM(l:By)(j:Nat)(hj:j<3):CS l j (aK.drop j)=if A5 l (Cz j) then some (j,l.drop (Cz j).length) else CS l (j+1) (aK.drop (j+1)):=by
 match j,hj with
 | 0,_=>rfl
 | 1,_=>rfl
 | 2,_=>rfl
theorem G4(j:Nat)(hj:j<3):(Cz j).length<=5:=by
 match j,hj with
 | 0,_=>decide
 | 1,_=>decide
 | 2,_=>decide
theorem C6(w:CL)(o:Obj)(b:Nat)(hb:b=w.heap.size):(w.alloc o).heap[b]? = some o:=by
 subst hb;show (w.heap.push o)[w.heap.size]? = _;simp
def Vp(o:Option (Nat×By))(l:By)(e:Ending)(w w':CL)(R:Nat)(t:ByteArray)(tw:Bool)(dp fr:Int):Prop:=
 (∃k l' b,o=some (k,l')/\e=.returned (.tuple #[.pointer (some ⟨b,0,none⟩),.bool true])/\k<3/\VB w' b k n0 [] (.slice none 0 0) (.map none)/\w.heap.size<=b/\RD w' R t l' tw dp fr) \/
  (o=none/\e=.returned (.tuple #[.pointer none,.bool false])/\RD w' R t l tw dp fr)
theorem Ti(h:RD w R t l tw dp fr)(hT:Af w):
  A3 AI 185 #[.pointer (some ⟨R,0,none⟩)] w fun e w'=>Ae R w w'/\Vp (CS l 0 aK) l e w w' R t tw dp fr:=by
 obtain⟨tt,fz,q4⟩:=hT.words;clear hT
 go_enter func185,ntmps185
 go_wp2_with (refine wpList_load_row rfl 165 _ rfl 0 rfl tt _ fz _ q4 underlying165 rfl (by kernel_rfl) ?_)
 clear q4
 go_loopw [7] (fun i wr=>∃j:Nat,j<=3/\i=.int .i64 j/\RD wr R t l tw dp fr/\Ae R w wr/\CS l 0 aK=CS l j (aK.drop j)) (fun i _=>3-(intOf i).toNat)
 case atStart=>exact⟨0,by omega,rfl,h,Ae.refl R w,rfl⟩
 case round=>
  obtain⟨j,q9,rfl,hr,hk,he⟩:=hrel;have HE:=Ab he;clear he h;by_cases hlt:j<3
  ·have q6:=Th j hlt;have q8:=G4 j hlt;obtain⟨q,ha,hq⟩:=hr;have c0:=hq.c0;have c1:=hq.c1;have f1:=hq.fz 1;have b2:(q:Int)<=(t.size:Int):=by have:=ha.le;omega
   have b3:(q:Int)<=2000:=by have:=ha.le;have:=ha.small;omega
   have cH:∀W:CL,A3 AI 194 #[.string (t.extract q t.size),.string ⟨(Cz j).toArray⟩] W fun e w'=>e=.returned (.bool (A5 l (Cz j)))/\w'=W:=fun W=>by
    have:=Tryz.strings_HasPrefix (t.extract q t.size) ⟨(Cz j).toArray⟩ W;rw[Lib.extract_to_end,ha.eq] at this;exact this
   have CH:=Ab cH;have HQ:=Ab hq;have HA:=Ab ha;have HS:=Ab (QM l j hlt);generalize q5:Cz j=wj at *;clear q5;clear hq ha cH;by_cases hp:A5 l wj=true
   ·have HP:=Ab hp;have q7:wj.length<=l.length:=by
     have:=hp;unfold A5 at this;exact (List.isPrefixOf_iff_prefix.1 this).length_le
    have C1:Hid (∀W:CL,A3 AI 194 #[.string (t.extract q t.size),.string ⟨wj.toArray⟩] W fun e w'=>e=.returned (.bool true)/\w'=W):=by
     have:=Aa CH;rw[hp] at this;exact this
    clear hp CH
    go_wp2_with (fail)
    go_quiet ((go_at_call 194;exact CD (Aa C1 _)))
    go_wp2_with (fail);have q0:RD ((((wr.drewN nq).setCell ⟨R,1,none⟩ (.int .i64 ((q:Int)+wj.length))).alloc (.cells #[.int .i64 j,.bool false,.string ⟨#[]⟩,.int .i64 0,.string ⟨#[]⟩,.slice none 0 0,.map none] 111))) R t (l.drop wj.length) tw dp fr:=
     ⟨q+wj.length,(Aa HA).add wj.length q7,(((Aa HQ).drewN nq).set1 (q+wj.length)).alloc _⟩
    go_ret2
    refine⟨((hk.drewN nq).setCell (p:=⟨R,1,none⟩) rfl _).alloc _,CR ⟨j,l.drop wj.length,wr.heap.size,?_,rfl,hlt,C6 _ _ _ (by simp[World.setCell]),hk.size,q0⟩⟩;rw[Aa HE,Aa HS,Aa HP];rfl
   ·replace hp:A5 l wj=false:=by simpa using hp
    have HP:=Ab hp;have C1:Hid (∀W:CL,A3 AI 194 #[.string (t.extract q t.size),.string ⟨wj.toArray⟩] W fun e w'=>e=.returned (.bool false)/\w'=W):=by
     have:=Aa CH;rw[hp] at this;exact this
    clear hp CH
    go_wp2_with (fail)
    go_quiet ((go_at_call 194;exact CD (Aa C1 _)))
    go_wp2_with (fail)
    go_roundw
    case rel=>exact⟨j+1,by omega,by go_num,⟨q,Aa HA,(Aa HQ).drewN _⟩,hk.drewN _,by rw[Aa HE,Aa HS,Aa HP];rfl⟩
    case measure=>simp[intOf];omega
  ·go_wp2_with (fail)
   go_ret2
   refine⟨hk,A6 ⟨?_,rfl,hr⟩⟩;rw[Aa HE,show j=3 by omega];rfl
theorem Xx(h:RD w R t l tw dp fr)(k1:Zn l 45=false)(hd:dg l=[]):
  A3 AI 184 #[.pointer (some ⟨R,0,none⟩)] w fun e w'=>Ae R w w'/\BU (Zw l) e w' R t tw dp fr:=by
 have hE:Hid (Zw l=none):=by
  unfold Hid Zw BN;simp[k1,hd]
 have K1:=Ab k1;have HD:=Ab hd;have q8:=h.lt;have q4:l.length<=2000:=by obtain⟨p,ha,_⟩:=h;have:=ha.len;have:=ha.small;omega
 clear k1 hd
 go_enter func184,ntmps184
 go_wp2_with (fail);refine (AP 45 _ rfl (h.alloc _) (Aa K1)).mono ?_
 rintro e w1 ⟨rfl,q7,q5⟩
 go_wp2_with (fail);refine (AK q7).mono ?_
 rintro e w2 ⟨rfl,q6,hk2⟩;rw[Aa HD];have hs2:=((Bt.new w).kept q5 (by omega)).kept hk2 (by omega);have q0:=(((Ae.refl R w).alloc _).trans q5).trans hk2;have s0:=hs2.c0;have s1:=hs2.c1;have s2:=hs2.c2;have z0:=hs2.fz 0;have z1:=hs2.fz 1;have z2:=hs2.fz 2
 go_wp2_with (fail);refine AS (v:=.tuple #[Az (false,[],0),.bool false]) (by simp[A1,results184,go_sem,Az,s0,s1,s2]) rfl ⟨?_,A6 ⟨Aa hE,rfl,ZH l,?_⟩⟩
 ·exact (((q0.setCell_new (by simp) _).setCell_new (by simp) _).setCell_new (by simp) _)
 ·exact (q6.kept (((Ae.refl w.heap.size w2).setCell (p:=⟨w.heap.size,0,none⟩) rfl _ |>.setCell (p:=⟨w.heap.size,1,none⟩) rfl _).setCell (p:=⟨w.heap.size,2,none⟩) rfl _) (by omega))
theorem Xw(h:RD w R t l tw dp fr)(k1:Zn l 45=false)(d:UInt8)(ds:By)(hd:dg l=d::ds)(hz:d=48)(q8:1<ds.length+1):
  A3 AI 184 #[.pointer (some ⟨R,0,none⟩)] w fun e w'=>Ae R w w'/\BU (Zw l) e w' R t tw dp fr:=by
 have hE:Hid (Zw l=none):=by
  unfold Hid Zw BN;have h1:Zn l 48=true:=by rw[DX hd,hz];rfl
  have h4:0<ds.length:=by omega
  simp[k1,hd,h1,h4]
 have K1:=Ab k1;have HD:=Ab hd;have h0:=B1 d ds (Av d ds);have q9:((((⟨(d::ds).toArray⟩:ByteArray)[0]'(Av d ds)).toNat:Int)==48)=true:=by rw[h0,hz];rfl
 have gl:decide ((1:Int)<(ds.length:Int)+1)=true:=by simp;omega
 have qb:=h.lt;have q4:l.length<=2000:=by obtain⟨p,ha,_⟩:=h;have:=ha.len;have:=ha.small;omega
 clear k1 hd q8 h0 hz
 go_enter func184,ntmps184
 go_wp2_with (fail);refine (AP 45 _ rfl (h.alloc _) (Aa K1)).mono ?_
 rintro e w1 ⟨rfl,q7,q5⟩
 go_wp2_with (fail);refine (AK q7).mono ?_
 rintro e w2 ⟨rfl,q6,hk2⟩;rw[Aa HD];have hs2:=((Bt.new w).kept q5 (by omega)).kept hk2 (by omega);have q0:=(((Ae.refl R w).alloc _).trans q5).trans hk2;have s0:=hs2.c0;have s1:=hs2.c1;have s2:=hs2.c2;have z0:=hs2.fz 0;have z1:=hs2.fz 1;have z2:=hs2.fz 2
 go_wp2_with (fail);refine AS (v:=.tuple #[Az (false,[],0),.bool false]) (by simp[A1,results184,go_sem,Az,s0,s1,s2]) rfl ⟨?_,A6 ⟨Aa hE,rfl,ZH l,?_⟩⟩
 ·exact (((q0.setCell_new (by simp) _).setCell_new (by simp) _).setCell_new (by simp) _)
 ·exact (q6.kept (((Ae.refl w.heap.size w2).setCell (p:=⟨w.heap.size,0,none⟩) rfl _ |>.setCell (p:=⟨w.heap.size,1,none⟩) rfl _).setCell (p:=⟨w.heap.size,2,none⟩) rfl _) (by omega))
theorem Wb(h:RD w R t l tw dp fr)(k1:Zn l 45=false)(d:UInt8)(ds:By)(hd:dg l=d::ds)(hz:¬ d=48)(hf:BP (ZH l)=none):
  A3 AI 184 #[.pointer (some ⟨R,0,none⟩)] w fun e w'=>Ae R w w'/\BU (Zw l) e w' R t tw dp fr:=by
 have hE:Hid (Zw l=none):=by
  unfold Hid Zw BN;have h1:Zn l 48=false:=by rw[DX hd];simpa using hz
  simp[k1,hd,hf,h1]
 have K1:=Ab k1;have HD:=Ab hd;have h0:=B1 d ds (Av d ds);have qe:((((⟨(d::ds).toArray⟩:ByteArray)[0]'(Av d ds)).toNat:Int)==48)=false:=by
  rw[h0];simp;intro h;exact hz (A2.1 (by simpa using (show d.toNat=48 by omega)))
 have HF:=Ab hf;have qf:=h.lt;have q6:l.length<=2000:=by obtain⟨p,ha,_⟩:=h;have:=ha.len;have:=ha.small;omega
 clear k1 hd h0 hz hf
 go_enter func184,ntmps184
 go_wp2_with (fail);refine (AP 45 _ rfl (h.alloc _) (Aa K1)).mono ?_
 rintro e w1 ⟨rfl,qd,q9⟩
 go_wp2_with (fail);refine (AK qd).mono ?_
 rintro e w2 ⟨rfl,qb,hk2⟩;rw[Aa HD];have hs2:=((Bt.new w).kept q9 (by omega)).kept hk2 (by omega);have q5:=(((Ae.refl R w).alloc _).trans q9).trans hk2
 go_wp2_with (fail);refine (Bd qb).mono ?_
 rintro e w3 ⟨q8,hc⟩;have q0:=hs2.kept q8 (by omega);have q4:=q5.trans q8;rcases hc with⟨s,l',e1,rfl,q7⟩|⟨e1,s,l',rfl,q7⟩
 ·rw[Aa HF] at e1;cases e1
 clear e1;have s0:=q0.c0;have s1:=q0.c1;have s2:=q0.c2;have z0:=q0.fz 0;have z1:=q0.fz 1;have z2:=q0.fz 2
 go_wp2_with (fail);refine AS (v:=.tuple #[Az (false,[],0),.bool false]) (by simp[A1,results184,go_sem,Az,s0,s1,s2]) rfl ⟨?_,A6 ⟨Aa hE,rfl,l',?_⟩⟩
 ·exact (((q4.setCell_new (by simp) _).setCell_new (by simp) _).setCell_new (by simp) _)
 ·exact (q7.kept (((Ae.refl w.heap.size w3).setCell (p:=⟨w.heap.size,0,none⟩) rfl _ |>.setCell (p:=⟨w.heap.size,1,none⟩) rfl _).setCell (p:=⟨w.heap.size,2,none⟩) rfl _) (by omega))
theorem V9(h:RD w R t l tw dp fr)(k1:Zn l 45=false)(d:UInt8)(ds:By)(hd:dg l=d::ds)(hz:d=48)(q6:ds=[])(hf:BP (ZH l)=none):
  A3 AI 184 #[.pointer (some ⟨R,0,none⟩)] w fun e w'=>Ae R w w'/\BU (Zw l) e w' R t tw dp fr:=by
 have hE:Hid (Zw l=none):=by
  unfold Hid Zw BN;subst q6;simp[k1,hd,hf]
 have K1:=Ab k1;have HD:=Ab hd;have h0:=B1 d ds (Av d ds);have qf:((((⟨(d::ds).toArray⟩:ByteArray)[0]'(Av d ds)).toNat:Int)==48)=true:=by rw[h0,hz];rfl
 have gl:decide ((1:Int)<(ds.length:Int)+1)=false:=by subst q6;rfl
 have HF:=Ab hf;have qg:=h.lt;have q7:l.length<=2000:=by obtain⟨p,ha,_⟩:=h;have:=ha.len;have:=ha.small;omega
 clear k1 hd q6 h0 hz hf
 go_enter func184,ntmps184
 go_wp2_with (fail);refine (AP 45 _ rfl (h.alloc _) (Aa K1)).mono ?_
 rintro e w1 ⟨rfl,qe,qb⟩
 go_wp2_with (fail);refine (AK qe).mono ?_
 rintro e w2 ⟨rfl,qd,hk2⟩;rw[Aa HD];have hs2:=((Bt.new w).kept qb (by omega)).kept hk2 (by omega);have q5:=(((Ae.refl R w).alloc _).trans qb).trans hk2
 go_wp2_with (fail);refine (Bd qd).mono ?_
 rintro e w3 ⟨q9,hc⟩;have q0:=hs2.kept q9 (by omega);have q4:=q5.trans q9;rcases hc with⟨s,l',e1,rfl,q8⟩|⟨e1,s,l',rfl,q8⟩
 ·rw[Aa HF] at e1;cases e1
 clear e1;have s0:=q0.c0;have s1:=q0.c1;have s2:=q0.c2;have z0:=q0.fz 0;have z1:=q0.fz 1;have z2:=q0.fz 2
 go_wp2_with (fail);refine AS (v:=.tuple #[Az (false,[],0),.bool false]) (by simp[A1,results184,go_sem,Az,s0,s1,s2]) rfl ⟨?_,A6 ⟨Aa hE,rfl,l',?_⟩⟩
 ·exact (((q4.setCell_new (by simp) _).setCell_new (by simp) _).setCell_new (by simp) _)
 ·exact (q8.kept (((Ae.refl w.heap.size w3).setCell (p:=⟨w.heap.size,0,none⟩) rfl _ |>.setCell (p:=⟨w.heap.size,1,none⟩) rfl _).setCell (p:=⟨w.heap.size,2,none⟩) rfl _) (by omega))
theorem V8(h:RD w R t l tw dp fr)(k1:Zn l 45=false)(d:UInt8)(ds:By)(hd:dg l=d::ds)(hz:¬ d=48)(f l2:By)(hf:BP (ZH l)=some (f,l2))(he:BJ l2=none):
  A3 AI 184 #[.pointer (some ⟨R,0,none⟩)] w fun e w'=>Ae R w w'/\BU (Zw l) e w' R t tw dp fr:=by
 have hE:Hid (Zw l=none):=by
  unfold Hid Zw BN;have h1:Zn l 48=false:=by rw[DX hd];simpa using hz
  simp[k1,hd,hf,he,h1]
 have K1:=Ab k1;have HD:=Ab hd;have h0:=B1 d ds (Av d ds);have qi:((((⟨(d::ds).toArray⟩:ByteArray)[0]'(Av d ds)).toNat:Int)==48)=false:=by
  rw[h0];simp;intro h;exact hz (A2.1 (by simpa using (show d.toNat=48 by omega)))
 have HF:=Ab hf;have HX:=Ab he;have qj:=h.lt;have q7:l.length<=2000:=by obtain⟨p,ha,_⟩:=h;have:=ha.len;have:=ha.small;omega
 clear k1 hd h0 hz hf he
 go_enter func184,ntmps184
 go_wp2_with (fail);refine (AP 45 _ rfl (h.alloc _) (Aa K1)).mono ?_
 rintro e w1 ⟨rfl,qh,qd⟩
 go_wp2_with (fail);refine (AK qh).mono ?_
 rintro e w2 ⟨rfl,qf,hk2⟩;rw[Aa HD];have hs2:=((Bt.new w).kept qd (by omega)).kept hk2 (by omega);have q5:=(((Ae.refl R w).alloc _).trans qd).trans hk2
 go_wp2_with (fail);refine (Bd qf).mono ?_
 rintro e w3 ⟨q9,hc⟩;have qg:=hs2.kept q9 (by omega);have q4:=q5.trans q9;rcases hc with⟨s,l',e1,rfl,qe⟩|⟨e1,_⟩
 rotate_left
 ·rw[Aa HF] at e1;cases e1
 rw[Aa HF] at e1;injection e1 with e1;injection e1 with e1 e2;subst e1 e2
 go_wp2_with (fail);refine (BV qe).mono ?_
 rintro e w4 ⟨qb,hc⟩;have q0:=qg.kept qb (by omega);have q6:=q4.trans qb;rcases hc with⟨x',l',e1,rfl,q8⟩|⟨e1,x',l',rfl,q8⟩
 ·rw[Aa HX] at e1;cases e1
 clear e1;have s0:=q0.c0;have s1:=q0.c1;have s2:=q0.c2;have z0:=q0.fz 0;have z1:=q0.fz 1;have z2:=q0.fz 2
 go_wp2_with (fail);refine AS (v:=.tuple #[Az (false,[],0),.bool false]) (by simp[A1,results184,go_sem,Az,s0,s1,s2]) rfl ⟨?_,A6 ⟨Aa hE,rfl,l',?_⟩⟩
 ·exact (((q6.setCell_new (by simp) _).setCell_new (by simp) _).setCell_new (by simp) _)
 ·exact (q8.kept (((Ae.refl w.heap.size w4).setCell (p:=⟨w.heap.size,0,none⟩) rfl _ |>.setCell (p:=⟨w.heap.size,1,none⟩) rfl _).setCell (p:=⟨w.heap.size,2,none⟩) rfl _) (by omega))
theorem V7(h:RD w R t l tw dp fr)(k1:Zn l 45=false)(d:UInt8)(ds:By)(hd:dg l=d::ds)(hz:d=48)(q7:ds=[])(f l2:By)(hf:BP (ZH l)=some (f,l2))(he:BJ l2=none):
  A3 AI 184 #[.pointer (some ⟨R,0,none⟩)] w fun e w'=>Ae R w w'/\BU (Zw l) e w' R t tw dp fr:=by
 have hE:Hid (Zw l=none):=by
  unfold Hid Zw BN;subst q7;simp[k1,hd,hf,he]
 have K1:=Ab k1;have HD:=Ab hd;have h0:=B1 d ds (Av d ds);have qj:((((⟨(d::ds).toArray⟩:ByteArray)[0]'(Av d ds)).toNat:Int)==48)=true:=by rw[h0,hz];rfl
 have gl:decide ((1:Int)<(ds.length:Int)+1)=false:=by subst q7;rfl
 have HF:=Ab hf;have HX:=Ab he;have qk:=h.lt;have q8:l.length<=2000:=by obtain⟨p,ha,_⟩:=h;have:=ha.len;have:=ha.small;omega
 clear k1 hd q7 h0 hz hf he
 go_enter func184,ntmps184
 go_wp2_with (fail);refine (AP 45 _ rfl (h.alloc _) (Aa K1)).mono ?_
 rintro e w1 ⟨rfl,qi,qe⟩
 go_wp2_with (fail);refine (AK qi).mono ?_
 rintro e w2 ⟨rfl,qg,hk2⟩;rw[Aa HD];have hs2:=((Bt.new w).kept qe (by omega)).kept hk2 (by omega);have q5:=(((Ae.refl R w).alloc _).trans qe).trans hk2
 go_wp2_with (fail);refine (Bd qg).mono ?_
 rintro e w3 ⟨qb,hc⟩;have qh:=hs2.kept qb (by omega);have q4:=q5.trans qb;rcases hc with⟨s,l',e1,rfl,qf⟩|⟨e1,_⟩
 rotate_left
 ·rw[Aa HF] at e1;cases e1
 rw[Aa HF] at e1;injection e1 with e1;injection e1 with e1 e2;subst e1 e2
 go_wp2_with (fail);refine (BV qf).mono ?_
 rintro e w4 ⟨qd,hc⟩;have q0:=qh.kept qd (by omega);have q6:=q4.trans qd;rcases hc with⟨x',l',e1,rfl,q9⟩|⟨e1,x',l',rfl,q9⟩
 ·rw[Aa HX] at e1;cases e1
 clear e1;have s0:=q0.c0;have s1:=q0.c1;have s2:=q0.c2;have z0:=q0.fz 0;have z1:=q0.fz 1;have z2:=q0.fz 2
 go_wp2_with (fail);refine AS (v:=.tuple #[Az (false,[],0),.bool false]) (by simp[A1,results184,go_sem,Az,s0,s1,s2]) rfl ⟨?_,A6 ⟨Aa hE,rfl,l',?_⟩⟩
 ·exact (((q6.setCell_new (by simp) _).setCell_new (by simp) _).setCell_new (by simp) _)
 ·exact (q9.kept (((Ae.refl w.heap.size w4).setCell (p:=⟨w.heap.size,0,none⟩) rfl _ |>.setCell (p:=⟨w.heap.size,1,none⟩) rfl _).setCell (p:=⟨w.heap.size,2,none⟩) rfl _) (by omega))
theorem V6(h:RD w R t l tw dp fr)(k1:Zn l 45=false)(d:UInt8)(ds:By)(hd:dg l=d::ds)(hz:¬ d=48)(f l2:By)(hf:BP (ZH l)=some (f,l2))(x:Int)(l3:By)(he:BJ l2=some (x,l3)):
  A3 AI 184 #[.pointer (some ⟨R,0,none⟩)] w fun e w'=>Ae R w w'/\BU (Zw l) e w' R t tw dp fr:=by
 have hE:Hid (Zw l=some (Cv false (d::ds++f) (x-f.length),l3)):=by
  unfold Hid Zw BN;have h1:Zn l 48=false:=by rw[DX hd];simpa using hz
  simp[k1,hd,hf,he,h1]
 have K1:=Ab k1;have HD:=Ab hd;have h0:=B1 d ds (Av d ds);have qt:((((⟨(d::ds).toArray⟩:ByteArray)[0]'(Av d ds)).toNat:Int)==48)=false:=by
  rw[h0];simp;intro h;exact hz (A2.1 (by simpa using (show d.toNat=48 by omega)))
 have HF:=Ab hf;have HX:=Ab he;have qr:=h.lt;have qd:l.length<=2000:=by obtain⟨p,ha,_⟩:=h;have:=ha.len;have:=ha.small;omega
 clear k1 hd h0 hz hf he
 go_enter func184,ntmps184
 go_wp2_with (fail);refine (AP 45 _ rfl (h.alloc _) (Aa K1)).mono ?_
 rintro e w1 ⟨rfl,qn,q9⟩
 go_wp2_with (fail);refine (AK qn).mono ?_
 rintro e w2 ⟨rfl,qk,hk2⟩;rw[Aa HD];have hs2:=((Bt.new w).kept q9 (by omega)).kept hk2 (by omega);have q7:=(((Ae.refl R w).alloc _).trans q9).trans hk2
 go_wp2_with (fail);refine (Bd qk).mono ?_
 rintro e w3 ⟨qe,hc⟩;have qm:=hs2.kept qe (by omega);have q6:=q7.trans qe;rcases hc with⟨s,l',e1,rfl,qj⟩|⟨e1,_⟩
 rotate_left
 ·rw[Aa HF] at e1;cases e1
 rw[Aa HF] at e1;injection e1 with e1;injection e1 with e1 e2;subst e1 e2
 go_wp2_with (fail);refine (BV qj).mono ?_
 rintro e w4 ⟨qb,hc⟩;have qh:=qm.kept qb (by omega);have q5:=q6.trans qb;rcases hc with⟨x',l',e1,rfl,qi⟩|⟨e1,_⟩
 rotate_left
 ·rw[Aa HX] at e1;cases e1
 rw[Aa HX] at e1;injection e1 with e1;injection e1 with e1 e2;subst e1 e2;have qx:=Gl (Aa HX);have qu:f.length<=2000:=by
  have:=DO (Aa HF);have:=B9 l;have:=AT (l:=l);omega
 have qq:ds.length+1<=2000:=by
  have e1:=B9 l;rw[Aa HD] at e1;have e2:=AT (l:=l);rw[A4] at e1;omega
 have qp:¬ 9223372036854775807<ds.length+1+f.length:=by omega
 go_wp2_with (fail);have qg:(⟨(d::ds).toArray⟩:ByteArray)++⟨f.toArray⟩=⟨(d::ds++f).toArray⟩:=by
  apply Bs;simp
 rw[qg];refine (Do false (d::ds++f) (x-f.length) w4 (by omega) (by omega) (by simp;omega)).mono ?_;rintro e w5 ⟨rfl,q8⟩;have qf:=Ae.of_below (X:=R) q8;have qo:=qh.kept qf (by omega);have q4:=q5.trans qf;obtain⟨q,ha,hq⟩:=qi.kept (Ae.of_below (X:=R+1) q8) (by omega);generalize hn:Cv false (d::ds++f) (x-f.length)=n at *;obtain⟨nb,nd,ne⟩:=n;have qv:-10000000<=ne/\ne<=10000000:=by
  have hm:=Gc false (d::ds++f) (x-f.length);rw[hn] at hm;have e:(d::ds++f).length=ds.length+1+f.length:=by simp;omega
  rw[e] at hm;simp only at hm;omega
 have c4:∀o,(w5.alloc o).cell? ⟨R,4,none⟩=some (.int .i64 fr):=fun o=>(hq.alloc o).c4;have f4:∀o,(w5.alloc o).frozen? ⟨R,4,none⟩=false:=fun o=>(hq.alloc o).fz 4;have q0:∀o,Bt (w5.alloc o) w.heap.size:=fun o=>qo.kept ((Ae.refl R w5).alloc o) (by omega);have s0:=fun o=>(q0 o).c0;have s1:=fun o=>(q0 o).c1;have s2:=fun o=>(q0 o).c2;have z0:=fun o=>(q0 o).fz 0;have z1:=fun o=>(q0 o).fz 1;have z2:=fun o=>(q0 o).fz 2;have qw:=q4.size;unfold Az
 go_wp2_with (fail)
 go_region
 go_wp2_with (fail);all_goals (
  refine AS (v:=.tuple #[Az (nb,nd,ne),.bool true]) (by simp[A1,results184,go_sem,Az,s0,s1,s2]) rfl ⟨?_,CR ⟨(nb,nd,ne),l3,Aa hE,rfl,⟨q,ha,Io hq _ _ _ _ _ _ _ (by omega) (by simp only;omega)⟩⟩⟩;exact ((((((q4.alloc _).setCell (p:=⟨R,4,none⟩) rfl _).setCell_new (by simp) _).setCell_new (by simp) _).setCell_new (by simp) _).drew))
theorem V5(h:RD w R t l tw dp fr)(k1:Zn l 45=false)(d:UInt8)(ds:By)(hd:dg l=d::ds)(hz:d=48)(q8:ds=[])(f l2:By)(hf:BP (ZH l)=some (f,l2))(x:Int)(l3:By)(he:BJ l2=some (x,l3)):
  A3 AI 184 #[.pointer (some ⟨R,0,none⟩)] w fun e w'=>Ae R w w'/\BU (Zw l) e w' R t tw dp fr:=by
 have hE:Hid (Zw l=some (Cv false (d::ds++f) (x-f.length),l3)):=by
  unfold Hid Zw BN;subst q8;simp[k1,hd,hf,he]
 have K1:=Ab k1;have HD:=Ab hd;have h0:=B1 d ds (Av d ds);have qu:((((⟨(d::ds).toArray⟩:ByteArray)[0]'(Av d ds)).toNat:Int)==48)=true:=by rw[h0,hz];rfl
 have gl:decide ((1:Int)<(ds.length:Int)+1)=false:=by subst q8;rfl
 have HF:=Ab hf;have HX:=Ab he;have qt:=h.lt;have qe:l.length<=2000:=by obtain⟨p,ha,_⟩:=h;have:=ha.len;have:=ha.small;omega
 clear k1 hd q8 h0 hz hf he
 go_enter func184,ntmps184
 go_wp2_with (fail);refine (AP 45 _ rfl (h.alloc _) (Aa K1)).mono ?_
 rintro e w1 ⟨rfl,qo,qb⟩
 go_wp2_with (fail);refine (AK qo).mono ?_
 rintro e w2 ⟨rfl,qm,hk2⟩;rw[Aa HD];have hs2:=((Bt.new w).kept qb (by omega)).kept hk2 (by omega);have q7:=(((Ae.refl R w).alloc _).trans qb).trans hk2
 go_wp2_with (fail);refine (Bd qm).mono ?_
 rintro e w3 ⟨qf,hc⟩;have qn:=hs2.kept qf (by omega);have q6:=q7.trans qf;rcases hc with⟨s,l',e1,rfl,qk⟩|⟨e1,_⟩
 rotate_left
 ·rw[Aa HF] at e1;cases e1
 rw[Aa HF] at e1;injection e1 with e1;injection e1 with e1 e2;subst e1 e2
 go_wp2_with (fail);refine (BV qk).mono ?_
 rintro e w4 ⟨qd,hc⟩;have qi:=qn.kept qd (by omega);have q5:=q6.trans qd;rcases hc with⟨x',l',e1,rfl,qj⟩|⟨e1,_⟩
 rotate_left
 ·rw[Aa HX] at e1;cases e1
 rw[Aa HX] at e1;injection e1 with e1;injection e1 with e1 e2;subst e1 e2;have qy:=Gl (Aa HX);have qv:f.length<=2000:=by
  have:=DO (Aa HF);have:=B9 l;have:=AT (l:=l);omega
 have qr:ds.length+1<=2000:=by
  have e1:=B9 l;rw[Aa HD] at e1;have e2:=AT (l:=l);rw[A4] at e1;omega
 have qq:¬ 9223372036854775807<ds.length+1+f.length:=by omega
 go_wp2_with (fail);have qh:(⟨(d::ds).toArray⟩:ByteArray)++⟨f.toArray⟩=⟨(d::ds++f).toArray⟩:=by
  apply Bs;simp
 rw[qh];refine (Do false (d::ds++f) (x-f.length) w4 (by omega) (by omega) (by simp;omega)).mono ?_;rintro e w5 ⟨rfl,q9⟩;have qg:=Ae.of_below (X:=R) q9;have qp:=qi.kept qg (by omega);have q4:=q5.trans qg;obtain⟨q,ha,hq⟩:=qj.kept (Ae.of_below (X:=R+1) q9) (by omega);generalize hn:Cv false (d::ds++f) (x-f.length)=n at *;obtain⟨nb,nd,ne⟩:=n;have qw:-10000000<=ne/\ne<=10000000:=by
  have hm:=Gc false (d::ds++f) (x-f.length);rw[hn] at hm;have e:(d::ds++f).length=ds.length+1+f.length:=by simp;omega
  rw[e] at hm;simp only at hm;omega
 have c4:∀o,(w5.alloc o).cell? ⟨R,4,none⟩=some (.int .i64 fr):=fun o=>(hq.alloc o).c4;have f4:∀o,(w5.alloc o).frozen? ⟨R,4,none⟩=false:=fun o=>(hq.alloc o).fz 4;have q0:∀o,Bt (w5.alloc o) w.heap.size:=fun o=>qp.kept ((Ae.refl R w5).alloc o) (by omega);have s0:=fun o=>(q0 o).c0;have s1:=fun o=>(q0 o).c1;have s2:=fun o=>(q0 o).c2;have z0:=fun o=>(q0 o).fz 0;have z1:=fun o=>(q0 o).fz 1;have z2:=fun o=>(q0 o).fz 2;have qx:=q4.size;unfold Az
 go_wp2_with (fail)
 go_region
 go_wp2_with (fail);all_goals (
  refine AS (v:=.tuple #[Az (nb,nd,ne),.bool true]) (by simp[A1,results184,go_sem,Az,s0,s1,s2]) rfl ⟨?_,CR ⟨(nb,nd,ne),l3,Aa hE,rfl,⟨q,ha,Io hq _ _ _ _ _ _ _ (by omega) (by simp only;omega)⟩⟩⟩;exact ((((((q4.alloc _).setCell (p:=⟨R,4,none⟩) rfl _).setCell_new (by simp) _).setCell_new (by simp) _).setCell_new (by simp) _).drew))
theorem Xz(h:RD w R t l tw dp fr)(k1:Zn l 45=true)(hd:dg l.tail=[]):
  A3 AI 184 #[.pointer (some ⟨R,0,none⟩)] w fun e w'=>Ae R w w'/\BU (Zw l) e w' R t tw dp fr:=by
 have hE:Hid (Zw l=none):=by
  unfold Hid Zw BN;simp[k1,hd]
 have K1:=Ab k1;have HD:=Ab hd;have q8:=h.lt;have q4:l.length<=2000:=by obtain⟨p,ha,_⟩:=h;have:=ha.len;have:=ha.small;omega
 clear k1 hd
 go_enter func184,ntmps184
 go_wp2_with (fail);refine (Ar 45 _ rfl (h.alloc _) (Aa K1)).mono ?_
 rintro e w1 ⟨rfl,q7,q5⟩
 go_wp2_with (fail);refine (AK q7).mono ?_
 rintro e w2 ⟨rfl,q6,hk2⟩;rw[Aa HD];have hs2:=((Bt.new w).kept q5 (by omega)).kept hk2 (by omega);have q0:=(((Ae.refl R w).alloc _).trans q5).trans hk2;have s0:=hs2.c0;have s1:=hs2.c1;have s2:=hs2.c2;have z0:=hs2.fz 0;have z1:=hs2.fz 1;have z2:=hs2.fz 2
 go_wp2_with (fail);refine AS (v:=.tuple #[Az (false,[],0),.bool false]) (by simp[A1,results184,go_sem,Az,s0,s1,s2]) rfl ⟨?_,A6 ⟨Aa hE,rfl,ZH l.tail,?_⟩⟩
 ·exact (((q0.setCell_new (by simp) _).setCell_new (by simp) _).setCell_new (by simp) _)
 ·exact (q6.kept (((Ae.refl w.heap.size w2).setCell (p:=⟨w.heap.size,0,none⟩) rfl _ |>.setCell (p:=⟨w.heap.size,1,none⟩) rfl _).setCell (p:=⟨w.heap.size,2,none⟩) rfl _) (by omega))
theorem Xy(h:RD w R t l tw dp fr)(k1:Zn l 45=true)(d:UInt8)(ds:By)(hd:dg l.tail=d::ds)(hz:d=48)(q8:1<ds.length+1):
  A3 AI 184 #[.pointer (some ⟨R,0,none⟩)] w fun e w'=>Ae R w w'/\BU (Zw l) e w' R t tw dp fr:=by
 have hE:Hid (Zw l=none):=by
  unfold Hid Zw BN;have h1:Zn l.tail 48=true:=by rw[DX hd,hz];rfl
  have h4:0<ds.length:=by omega
  simp[k1,hd,h1,h4]
 have K1:=Ab k1;have HD:=Ab hd;have h0:=B1 d ds (Av d ds);have q9:((((⟨(d::ds).toArray⟩:ByteArray)[0]'(Av d ds)).toNat:Int)==48)=true:=by rw[h0,hz];rfl
 have gl:decide ((1:Int)<(ds.length:Int)+1)=true:=by simp;omega
 have qb:=h.lt;have q4:l.length<=2000:=by obtain⟨p,ha,_⟩:=h;have:=ha.len;have:=ha.small;omega
 clear k1 hd q8 h0 hz
 go_enter func184,ntmps184
 go_wp2_with (fail);refine (Ar 45 _ rfl (h.alloc _) (Aa K1)).mono ?_
 rintro e w1 ⟨rfl,q7,q5⟩
 go_wp2_with (fail);refine (AK q7).mono ?_
 rintro e w2 ⟨rfl,q6,hk2⟩;rw[Aa HD];have hs2:=((Bt.new w).kept q5 (by omega)).kept hk2 (by omega);have q0:=(((Ae.refl R w).alloc _).trans q5).trans hk2;have s0:=hs2.c0;have s1:=hs2.c1;have s2:=hs2.c2;have z0:=hs2.fz 0;have z1:=hs2.fz 1;have z2:=hs2.fz 2
 go_wp2_with (fail);refine AS (v:=.tuple #[Az (false,[],0),.bool false]) (by simp[A1,results184,go_sem,Az,s0,s1,s2]) rfl ⟨?_,A6 ⟨Aa hE,rfl,ZH l.tail,?_⟩⟩
 ·exact (((q0.setCell_new (by simp) _).setCell_new (by simp) _).setCell_new (by simp) _)
 ·exact (q6.kept (((Ae.refl w.heap.size w2).setCell (p:=⟨w.heap.size,0,none⟩) rfl _ |>.setCell (p:=⟨w.heap.size,1,none⟩) rfl _).setCell (p:=⟨w.heap.size,2,none⟩) rfl _) (by omega))
theorem Wi(h:RD w R t l tw dp fr)(k1:Zn l 45=true)(d:UInt8)(ds:By)(hd:dg l.tail=d::ds)(hz:¬ d=48)(hf:BP (ZH l.tail)=none):
  A3 AI 184 #[.pointer (some ⟨R,0,none⟩)] w fun e w'=>Ae R w w'/\BU (Zw l) e w' R t tw dp fr:=by
 have hE:Hid (Zw l=none):=by
  unfold Hid Zw BN;have h1:Zn l.tail 48=false:=by rw[DX hd];simpa using hz
  simp[k1,hd,hf,h1]
 have K1:=Ab k1;have HD:=Ab hd;have h0:=B1 d ds (Av d ds);have qe:((((⟨(d::ds).toArray⟩:ByteArray)[0]'(Av d ds)).toNat:Int)==48)=false:=by
  rw[h0];simp;intro h;exact hz (A2.1 (by simpa using (show d.toNat=48 by omega)))
 have HF:=Ab hf;have qf:=h.lt;have q6:l.length<=2000:=by obtain⟨p,ha,_⟩:=h;have:=ha.len;have:=ha.small;omega
 clear k1 hd h0 hz hf
 go_enter func184,ntmps184
 go_wp2_with (fail);refine (Ar 45 _ rfl (h.alloc _) (Aa K1)).mono ?_
 rintro e w1 ⟨rfl,qd,q9⟩
 go_wp2_with (fail);refine (AK qd).mono ?_
 rintro e w2 ⟨rfl,qb,hk2⟩;rw[Aa HD];have hs2:=((Bt.new w).kept q9 (by omega)).kept hk2 (by omega);have q5:=(((Ae.refl R w).alloc _).trans q9).trans hk2
 go_wp2_with (fail);refine (Bd qb).mono ?_
 rintro e w3 ⟨q8,hc⟩;have q0:=hs2.kept q8 (by omega);have q4:=q5.trans q8;rcases hc with⟨s,l',e1,rfl,q7⟩|⟨e1,s,l',rfl,q7⟩
 ·rw[Aa HF] at e1;cases e1
 clear e1;have s0:=q0.c0;have s1:=q0.c1;have s2:=q0.c2;have z0:=q0.fz 0;have z1:=q0.fz 1;have z2:=q0.fz 2
 go_wp2_with (fail);refine AS (v:=.tuple #[Az (false,[],0),.bool false]) (by simp[A1,results184,go_sem,Az,s0,s1,s2]) rfl ⟨?_,A6 ⟨Aa hE,rfl,l',?_⟩⟩
 ·exact (((q4.setCell_new (by simp) _).setCell_new (by simp) _).setCell_new (by simp) _)
 ·exact (q7.kept (((Ae.refl w.heap.size w3).setCell (p:=⟨w.heap.size,0,none⟩) rfl _ |>.setCell (p:=⟨w.heap.size,1,none⟩) rfl _).setCell (p:=⟨w.heap.size,2,none⟩) rfl _) (by omega))
theorem Wh(h:RD w R t l tw dp fr)(k1:Zn l 45=true)(d:UInt8)(ds:By)(hd:dg l.tail=d::ds)(hz:d=48)(q6:ds=[])(hf:BP (ZH l.tail)=none):
  A3 AI 184 #[.pointer (some ⟨R,0,none⟩)] w fun e w'=>Ae R w w'/\BU (Zw l) e w' R t tw dp fr:=by
 have hE:Hid (Zw l=none):=by
  unfold Hid Zw BN;subst q6;simp[k1,hd,hf]
 have K1:=Ab k1;have HD:=Ab hd;have h0:=B1 d ds (Av d ds);have qf:((((⟨(d::ds).toArray⟩:ByteArray)[0]'(Av d ds)).toNat:Int)==48)=true:=by rw[h0,hz];rfl
 have gl:decide ((1:Int)<(ds.length:Int)+1)=false:=by subst q6;rfl
 have HF:=Ab hf;have qg:=h.lt;have q7:l.length<=2000:=by obtain⟨p,ha,_⟩:=h;have:=ha.len;have:=ha.small;omega
 clear k1 hd q6 h0 hz hf
 go_enter func184,ntmps184
 go_wp2_with (fail);refine (Ar 45 _ rfl (h.alloc _) (Aa K1)).mono ?_
 rintro e w1 ⟨rfl,qe,qb⟩
 go_wp2_with (fail);refine (AK qe).mono ?_
 rintro e w2 ⟨rfl,qd,hk2⟩;rw[Aa HD];have hs2:=((Bt.new w).kept qb (by omega)).kept hk2 (by omega);have q5:=(((Ae.refl R w).alloc _).trans qb).trans hk2
 go_wp2_with (fail);refine (Bd qd).mono ?_
 rintro e w3 ⟨q9,hc⟩;have q0:=hs2.kept q9 (by omega);have q4:=q5.trans q9;rcases hc with⟨s,l',e1,rfl,q8⟩|⟨e1,s,l',rfl,q8⟩
 ·rw[Aa HF] at e1;cases e1
 clear e1;have s0:=q0.c0;have s1:=q0.c1;have s2:=q0.c2;have z0:=q0.fz 0;have z1:=q0.fz 1;have z2:=q0.fz 2
 go_wp2_with (fail);refine AS (v:=.tuple #[Az (false,[],0),.bool false]) (by simp[A1,results184,go_sem,Az,s0,s1,s2]) rfl ⟨?_,A6 ⟨Aa hE,rfl,l',?_⟩⟩
 ·exact (((q4.setCell_new (by simp) _).setCell_new (by simp) _).setCell_new (by simp) _)
 ·exact (q8.kept (((Ae.refl w.heap.size w3).setCell (p:=⟨w.heap.size,0,none⟩) rfl _ |>.setCell (p:=⟨w.heap.size,1,none⟩) rfl _).setCell (p:=⟨w.heap.size,2,none⟩) rfl _) (by omega))
theorem Wg(h:RD w R t l tw dp fr)(k1:Zn l 45=true)(d:UInt8)(ds:By)(hd:dg l.tail=d::ds)(hz:¬ d=48)(f l2:By)(hf:BP (ZH l.tail)=some (f,l2))(he:BJ l2=none):
  A3 AI 184 #[.pointer (some ⟨R,0,none⟩)] w fun e w'=>Ae R w w'/\BU (Zw l) e w' R t tw dp fr:=by
 have hE:Hid (Zw l=none):=by
  unfold Hid Zw BN;have h1:Zn l.tail 48=false:=by rw[DX hd];simpa using hz
  simp[k1,hd,hf,he,h1]
 have K1:=Ab k1;have HD:=Ab hd;have h0:=B1 d ds (Av d ds);have qi:((((⟨(d::ds).toArray⟩:ByteArray)[0]'(Av d ds)).toNat:Int)==48)=false:=by
  rw[h0];simp;intro h;exact hz (A2.1 (by simpa using (show d.toNat=48 by omega)))
 have HF:=Ab hf;have HX:=Ab he;have qj:=h.lt;have q7:l.length<=2000:=by obtain⟨p,ha,_⟩:=h;have:=ha.len;have:=ha.small;omega
 clear k1 hd h0 hz hf he
 go_enter func184,ntmps184
 go_wp2_with (fail);refine (Ar 45 _ rfl (h.alloc _) (Aa K1)).mono ?_
 rintro e w1 ⟨rfl,qh,qd⟩
 go_wp2_with (fail);refine (AK qh).mono ?_
 rintro e w2 ⟨rfl,qf,hk2⟩;rw[Aa HD];have hs2:=((Bt.new w).kept qd (by omega)).kept hk2 (by omega);have q5:=(((Ae.refl R w).alloc _).trans qd).trans hk2
 go_wp2_with (fail);refine (Bd qf).mono ?_
 rintro e w3 ⟨q9,hc⟩;have qg:=hs2.kept q9 (by omega);have q4:=q5.trans q9;rcases hc with⟨s,l',e1,rfl,qe⟩|⟨e1,_⟩
 rotate_left
 ·rw[Aa HF] at e1;cases e1
 rw[Aa HF] at e1;injection e1 with e1;injection e1 with e1 e2;subst e1 e2
 go_wp2_with (fail);refine (BV qe).mono ?_
 rintro e w4 ⟨qb,hc⟩;have q0:=qg.kept qb (by omega);have q6:=q4.trans qb;rcases hc with⟨x',l',e1,rfl,q8⟩|⟨e1,x',l',rfl,q8⟩
 ·rw[Aa HX] at e1;cases e1
 clear e1;have s0:=q0.c0;have s1:=q0.c1;have s2:=q0.c2;have z0:=q0.fz 0;have z1:=q0.fz 1;have z2:=q0.fz 2
 go_wp2_with (fail);refine AS (v:=.tuple #[Az (false,[],0),.bool false]) (by simp[A1,results184,go_sem,Az,s0,s1,s2]) rfl ⟨?_,A6 ⟨Aa hE,rfl,l',?_⟩⟩
 ·exact (((q6.setCell_new (by simp) _).setCell_new (by simp) _).setCell_new (by simp) _)
 ·exact (q8.kept (((Ae.refl w.heap.size w4).setCell (p:=⟨w.heap.size,0,none⟩) rfl _ |>.setCell (p:=⟨w.heap.size,1,none⟩) rfl _).setCell (p:=⟨w.heap.size,2,none⟩) rfl _) (by omega))
theorem Wf(h:RD w R t l tw dp fr)(k1:Zn l 45=true)(d:UInt8)(ds:By)(hd:dg l.tail=d::ds)(hz:d=48)(q7:ds=[])(f l2:By)(hf:BP (ZH l.tail)=some (f,l2))(he:BJ l2=none):
  A3 AI 184 #[.pointer (some ⟨R,0,none⟩)] w fun e w'=>Ae R w w'/\BU (Zw l) e w' R t tw dp fr:=by
 have hE:Hid (Zw l=none):=by
  unfold Hid Zw BN;subst q7;simp[k1,hd,hf,he]
 have K1:=Ab k1;have HD:=Ab hd;have h0:=B1 d ds (Av d ds);have qj:((((⟨(d::ds).toArray⟩:ByteArray)[0]'(Av d ds)).toNat:Int)==48)=true:=by rw[h0,hz];rfl
 have gl:decide ((1:Int)<(ds.length:Int)+1)=false:=by subst q7;rfl
 have HF:=Ab hf;have HX:=Ab he;have qk:=h.lt;have q8:l.length<=2000:=by obtain⟨p,ha,_⟩:=h;have:=ha.len;have:=ha.small;omega
 clear k1 hd q7 h0 hz hf he
 go_enter func184,ntmps184
 go_wp2_with (fail);refine (Ar 45 _ rfl (h.alloc _) (Aa K1)).mono ?_
 rintro e w1 ⟨rfl,qi,qe⟩
 go_wp2_with (fail);refine (AK qi).mono ?_
 rintro e w2 ⟨rfl,qg,hk2⟩;rw[Aa HD];have hs2:=((Bt.new w).kept qe (by omega)).kept hk2 (by omega);have q5:=(((Ae.refl R w).alloc _).trans qe).trans hk2
 go_wp2_with (fail);refine (Bd qg).mono ?_
 rintro e w3 ⟨qb,hc⟩;have qh:=hs2.kept qb (by omega);have q4:=q5.trans qb;rcases hc with⟨s,l',e1,rfl,qf⟩|⟨e1,_⟩
 rotate_left
 ·rw[Aa HF] at e1;cases e1
 rw[Aa HF] at e1;injection e1 with e1;injection e1 with e1 e2;subst e1 e2
 go_wp2_with (fail);refine (BV qf).mono ?_
 rintro e w4 ⟨qd,hc⟩;have q0:=qh.kept qd (by omega);have q6:=q4.trans qd;rcases hc with⟨x',l',e1,rfl,q9⟩|⟨e1,x',l',rfl,q9⟩
 ·rw[Aa HX] at e1;cases e1
 clear e1;have s0:=q0.c0;have s1:=q0.c1;have s2:=q0.c2;have z0:=q0.fz 0;have z1:=q0.fz 1;have z2:=q0.fz 2
 go_wp2_with (fail);refine AS (v:=.tuple #[Az (false,[],0),.bool false]) (by simp[A1,results184,go_sem,Az,s0,s1,s2]) rfl ⟨?_,A6 ⟨Aa hE,rfl,l',?_⟩⟩
 ·exact (((q6.setCell_new (by simp) _).setCell_new (by simp) _).setCell_new (by simp) _)
 ·exact (q9.kept (((Ae.refl w.heap.size w4).setCell (p:=⟨w.heap.size,0,none⟩) rfl _ |>.setCell (p:=⟨w.heap.size,1,none⟩) rfl _).setCell (p:=⟨w.heap.size,2,none⟩) rfl _) (by omega))
theorem We(h:RD w R t l tw dp fr)(k1:Zn l 45=true)(d:UInt8)(ds:By)(hd:dg l.tail=d::ds)(hz:¬ d=48)(f l2:By)(hf:BP (ZH l.tail)=some (f,l2))(x:Int)(l3:By)(he:BJ l2=some (x,l3)):
  A3 AI 184 #[.pointer (some ⟨R,0,none⟩)] w fun e w'=>Ae R w w'/\BU (Zw l) e w' R t tw dp fr:=by
 have hE:Hid (Zw l=some (Cv true (d::ds++f) (x-f.length),l3)):=by
  unfold Hid Zw BN;have h1:Zn l.tail 48=false:=by rw[DX hd];simpa using hz
  simp[k1,hd,hf,he,h1]
 have K1:=Ab k1;have HD:=Ab hd;have h0:=B1 d ds (Av d ds);have qt:((((⟨(d::ds).toArray⟩:ByteArray)[0]'(Av d ds)).toNat:Int)==48)=false:=by
  rw[h0];simp;intro h;exact hz (A2.1 (by simpa using (show d.toNat=48 by omega)))
 have HF:=Ab hf;have HX:=Ab he;have qr:=h.lt;have qd:l.length<=2000:=by obtain⟨p,ha,_⟩:=h;have:=ha.len;have:=ha.small;omega
 clear k1 hd h0 hz hf he
 go_enter func184,ntmps184
 go_wp2_with (fail);refine (Ar 45 _ rfl (h.alloc _) (Aa K1)).mono ?_
 rintro e w1 ⟨rfl,qn,q9⟩
 go_wp2_with (fail);refine (AK qn).mono ?_
 rintro e w2 ⟨rfl,qk,hk2⟩;rw[Aa HD];have hs2:=((Bt.new w).kept q9 (by omega)).kept hk2 (by omega);have q7:=(((Ae.refl R w).alloc _).trans q9).trans hk2
 go_wp2_with (fail);refine (Bd qk).mono ?_
 rintro e w3 ⟨qe,hc⟩;have qm:=hs2.kept qe (by omega);have q6:=q7.trans qe;rcases hc with⟨s,l',e1,rfl,qj⟩|⟨e1,_⟩
 rotate_left
 ·rw[Aa HF] at e1;cases e1
 rw[Aa HF] at e1;injection e1 with e1;injection e1 with e1 e2;subst e1 e2
 go_wp2_with (fail);refine (BV qj).mono ?_
 rintro e w4 ⟨qb,hc⟩;have qh:=qm.kept qb (by omega);have q5:=q6.trans qb;rcases hc with⟨x',l',e1,rfl,qi⟩|⟨e1,_⟩
 rotate_left
 ·rw[Aa HX] at e1;cases e1
 rw[Aa HX] at e1;injection e1 with e1;injection e1 with e1 e2;subst e1 e2;have qx:=Gl (Aa HX);have qu:f.length<=2000:=by
  have:=DO (Aa HF);have:=B9 l.tail;have:=AT (l:=l);omega
 have qq:ds.length+1<=2000:=by
  have e1:=B9 l.tail;rw[Aa HD] at e1;have e2:=AT (l:=l);rw[A4] at e1;omega
 have qp:¬ 9223372036854775807<ds.length+1+f.length:=by omega
 go_wp2_with (fail);have qg:(⟨(d::ds).toArray⟩:ByteArray)++⟨f.toArray⟩=⟨(d::ds++f).toArray⟩:=by
  apply Bs;simp
 rw[qg];refine (Do true (d::ds++f) (x-f.length) w4 (by omega) (by omega) (by simp;omega)).mono ?_;rintro e w5 ⟨rfl,q8⟩;have qf:=Ae.of_below (X:=R) q8;have qo:=qh.kept qf (by omega);have q4:=q5.trans qf;obtain⟨q,ha,hq⟩:=qi.kept (Ae.of_below (X:=R+1) q8) (by omega);generalize hn:Cv true (d::ds++f) (x-f.length)=n at *;obtain⟨nb,nd,ne⟩:=n;have qv:-10000000<=ne/\ne<=10000000:=by
  have hm:=Gc true (d::ds++f) (x-f.length);rw[hn] at hm;have e:(d::ds++f).length=ds.length+1+f.length:=by simp;omega
  rw[e] at hm;simp only at hm;omega
 have c4:∀o,(w5.alloc o).cell? ⟨R,4,none⟩=some (.int .i64 fr):=fun o=>(hq.alloc o).c4;have f4:∀o,(w5.alloc o).frozen? ⟨R,4,none⟩=false:=fun o=>(hq.alloc o).fz 4;have q0:∀o,Bt (w5.alloc o) w.heap.size:=fun o=>qo.kept ((Ae.refl R w5).alloc o) (by omega);have s0:=fun o=>(q0 o).c0;have s1:=fun o=>(q0 o).c1;have s2:=fun o=>(q0 o).c2;have z0:=fun o=>(q0 o).fz 0;have z1:=fun o=>(q0 o).fz 1;have z2:=fun o=>(q0 o).fz 2;have qw:=q4.size;unfold Az
 go_wp2_with (fail)
 go_region
 go_wp2_with (fail);all_goals (
  refine AS (v:=.tuple #[Az (nb,nd,ne),.bool true]) (by simp[A1,results184,go_sem,Az,s0,s1,s2]) rfl ⟨?_,CR ⟨(nb,nd,ne),l3,Aa hE,rfl,⟨q,ha,Io hq _ _ _ _ _ _ _ (by omega) (by simp only;omega)⟩⟩⟩;exact ((((((q4.alloc _).setCell (p:=⟨R,4,none⟩) rfl _).setCell_new (by simp) _).setCell_new (by simp) _).setCell_new (by simp) _).drew))
theorem Wc(h:RD w R t l tw dp fr)(k1:Zn l 45=true)(d:UInt8)(ds:By)(hd:dg l.tail=d::ds)(hz:d=48)(q8:ds=[])(f l2:By)(hf:BP (ZH l.tail)=some (f,l2))(x:Int)(l3:By)(he:BJ l2=some (x,l3)):
  A3 AI 184 #[.pointer (some ⟨R,0,none⟩)] w fun e w'=>Ae R w w'/\BU (Zw l) e w' R t tw dp fr:=by
 have hE:Hid (Zw l=some (Cv true (d::ds++f) (x-f.length),l3)):=by
  unfold Hid Zw BN;subst q8;simp[k1,hd,hf,he]
 have K1:=Ab k1;have HD:=Ab hd;have h0:=B1 d ds (Av d ds);have qu:((((⟨(d::ds).toArray⟩:ByteArray)[0]'(Av d ds)).toNat:Int)==48)=true:=by rw[h0,hz];rfl
 have gl:decide ((1:Int)<(ds.length:Int)+1)=false:=by subst q8;rfl
 have HF:=Ab hf;have HX:=Ab he;have qt:=h.lt;have qe:l.length<=2000:=by obtain⟨p,ha,_⟩:=h;have:=ha.len;have:=ha.small;omega
 clear k1 hd q8 h0 hz hf he
 go_enter func184,ntmps184
 go_wp2_with (fail);refine (Ar 45 _ rfl (h.alloc _) (Aa K1)).mono ?_
 rintro e w1 ⟨rfl,qo,qb⟩
 go_wp2_with (fail);refine (AK qo).mono ?_
 rintro e w2 ⟨rfl,qm,hk2⟩;rw[Aa HD];have hs2:=((Bt.new w).kept qb (by omega)).kept hk2 (by omega);have q7:=(((Ae.refl R w).alloc _).trans qb).trans hk2
 go_wp2_with (fail);refine (Bd qm).mono ?_
 rintro e w3 ⟨qf,hc⟩;have qn:=hs2.kept qf (by omega);have q6:=q7.trans qf;rcases hc with⟨s,l',e1,rfl,qk⟩|⟨e1,_⟩
 rotate_left
 ·rw[Aa HF] at e1;cases e1
 rw[Aa HF] at e1;injection e1 with e1;injection e1 with e1 e2;subst e1 e2
 go_wp2_with (fail);refine (BV qk).mono ?_
 rintro e w4 ⟨qd,hc⟩;have qi:=qn.kept qd (by omega);have q5:=q6.trans qd;rcases hc with⟨x',l',e1,rfl,qj⟩|⟨e1,_⟩
 rotate_left
 ·rw[Aa HX] at e1;cases e1
 rw[Aa HX] at e1;injection e1 with e1;injection e1 with e1 e2;subst e1 e2;have qy:=Gl (Aa HX);have qv:f.length<=2000:=by
  have:=DO (Aa HF);have:=B9 l.tail;have:=AT (l:=l);omega
 have qr:ds.length+1<=2000:=by
  have e1:=B9 l.tail;rw[Aa HD] at e1;have e2:=AT (l:=l);rw[A4] at e1;omega
 have qq:¬ 9223372036854775807<ds.length+1+f.length:=by omega
 go_wp2_with (fail);have qh:(⟨(d::ds).toArray⟩:ByteArray)++⟨f.toArray⟩=⟨(d::ds++f).toArray⟩:=by
  apply Bs;simp
 rw[qh];refine (Do true (d::ds++f) (x-f.length) w4 (by omega) (by omega) (by simp;omega)).mono ?_;rintro e w5 ⟨rfl,q9⟩;have qg:=Ae.of_below (X:=R) q9;have qp:=qi.kept qg (by omega);have q4:=q5.trans qg;obtain⟨q,ha,hq⟩:=qj.kept (Ae.of_below (X:=R+1) q9) (by omega);generalize hn:Cv true (d::ds++f) (x-f.length)=n at *;obtain⟨nb,nd,ne⟩:=n;have qw:-10000000<=ne/\ne<=10000000:=by
  have hm:=Gc true (d::ds++f) (x-f.length);rw[hn] at hm;have e:(d::ds++f).length=ds.length+1+f.length:=by simp;omega
  rw[e] at hm;simp only at hm;omega
 have c4:∀o,(w5.alloc o).cell? ⟨R,4,none⟩=some (.int .i64 fr):=fun o=>(hq.alloc o).c4;have f4:∀o,(w5.alloc o).frozen? ⟨R,4,none⟩=false:=fun o=>(hq.alloc o).fz 4;have q0:∀o,Bt (w5.alloc o) w.heap.size:=fun o=>qp.kept ((Ae.refl R w5).alloc o) (by omega);have s0:=fun o=>(q0 o).c0;have s1:=fun o=>(q0 o).c1;have s2:=fun o=>(q0 o).c2;have z0:=fun o=>(q0 o).fz 0;have z1:=fun o=>(q0 o).fz 1;have z2:=fun o=>(q0 o).fz 2;have qx:=q4.size;unfold Az
 go_wp2_with (fail)
 go_region
 go_wp2_with (fail);all_goals (
  refine AS (v:=.tuple #[Az (nb,nd,ne),.bool true]) (by simp[A1,results184,go_sem,Az,s0,s1,s2]) rfl ⟨?_,CR ⟨(nb,nd,ne),l3,Aa hE,rfl,⟨q,ha,Io hq _ _ _ _ _ _ _ (by omega) (by simp only;omega)⟩⟩⟩;exact ((((((q4.alloc _).setCell (p:=⟨R,4,none⟩) rfl _).setCell_new (by simp) _).setCell_new (by simp) _).setCell_new (by simp) _).drew))
end Go.Proofs.YtdpomdelmdofmaaGreatDoor
