import Derived.Test.YtdpomdelmdofmaaGreatDoorUnd08
import Derived.Sort.KeysCollected
set_option maxHeartbeats 4000000
namespace Go.Proofs.YtdpomdelmdofmaaGreatDoor
open Go.Proofs.Tryz
open Go.RowKit
theorem DR{w:World}{R:Nat}{t:ByteArray}{l:Sp.By}{tw:Bool}{dp fr:Int}(h:RD w R t l tw dp fr)(k1:Sp.tk l 45=true)(hd:Sp.dg l.tail=[]) :
  Calls Tryz.prog 184 #[.pointer (some ⟨R,0,none⟩)] w fun e w'=>ab R w w'/\cB (Sp.num l) e w' R t tw dp fr:=by
 have hE:Hid (Sp.num l=none):=by
  unfold Hid Sp.num Sp.bT;simp[k1,hd]
 have K1:=U k1;have HD:=U hd;have hRw:=h.lt;have h2000:l.length<=2000:=by obtain⟨p,ha,_⟩:=h;have:=ha.len;have:=ha.small;omega
 clear k1 hd
 go_enter func184,ntmps184
 go_wp2_with (fail);refine (am 45 _ rfl (h.alloc _) (O K1)).mono ?_
 rintro e w1 ⟨rfl,hr1,hk1⟩
 go_wp2_with (fail);refine (aF hr1).mono ?_
 rintro e w2 ⟨rfl,hr2,hk2⟩;rw[O HD];have hs2:=((bL.new w).kept hk1 (by omega)).kept hk2 (by omega);have hkk2:=(((ab.refl R w).alloc _).trans hk1).trans hk2;have s0:=hs2.c0;have s1:=hs2.c1;have s2:=hs2.c2;have z0:=hs2.fz 0;have z1:=hs2.fz 1;have z2:=hs2.fz 2
 go_wp2_with (fail);refine bodyPost_ret (v:=.tuple #[aG (false,[],0),.bool false]) (by simp[results,results184,go_sem,aG,s0,s1,s2]) rfl ⟨?_,Or.inr ⟨O hE,rfl,Sp.dgR l.tail,?_⟩⟩
 ·exact (((hkk2.setCell_new (by simp) _).setCell_new (by simp) _).setCell_new (by simp) _)
 ·exact (hr2.kept (((ab.refl w.heap.size w2).setCell (p:=⟨w.heap.size,0,none⟩) rfl _ |>.setCell (p:=⟨w.heap.size,1,none⟩) rfl _).setCell (p:=⟨w.heap.size,2,none⟩) rfl _) (by omega))
theorem DQ{w:World}{R:Nat}{t:ByteArray}{l:Sp.By}{tw:Bool}{dp fr:Int}(h:RD w R t l tw dp fr)(k1:Sp.tk l 45=true)(d:UInt8)(ds:Sp.By)(hd:Sp.dg l.tail=d::ds)(hz:d=48)(hds:1<ds.length+1) :
  Calls Tryz.prog 184 #[.pointer (some ⟨R,0,none⟩)] w fun e w'=>ab R w w'/\cB (Sp.num l) e w' R t tw dp fr:=by
 have hE:Hid (Sp.num l=none):=by
  unfold Hid Sp.num Sp.bT;have h1:Sp.tk l.tail 48=true:=by rw[fK hd,hz];rfl
  have h4:0<ds.length:=by omega
  simp[k1,hd,h1,h4]
 have K1:=U k1;have HD:=U hd;have h0:=cG d ds (aB d ds);have g48:((((⟨(d::ds).toArray⟩:ByteArray)[0]'(aB d ds)).toNat:Int) == 48)=true:=by rw[h0,hz];rfl
 have gl:decide ((1:Int)<(ds.length:Int)+1)=true:=by simp;omega
 have hRw:=h.lt;have h2000:l.length<=2000:=by obtain⟨p,ha,_⟩:=h;have:=ha.len;have:=ha.small;omega
 clear k1 hd hds h0 hz
 go_enter func184,ntmps184
 go_wp2_with (fail);refine (am 45 _ rfl (h.alloc _) (O K1)).mono ?_
 rintro e w1 ⟨rfl,hr1,hk1⟩
 go_wp2_with (fail);refine (aF hr1).mono ?_
 rintro e w2 ⟨rfl,hr2,hk2⟩;rw[O HD];have hs2:=((bL.new w).kept hk1 (by omega)).kept hk2 (by omega);have hkk2:=(((ab.refl R w).alloc _).trans hk1).trans hk2;have s0:=hs2.c0;have s1:=hs2.c1;have s2:=hs2.c2;have z0:=hs2.fz 0;have z1:=hs2.fz 1;have z2:=hs2.fz 2
 go_wp2_with (fail);refine bodyPost_ret (v:=.tuple #[aG (false,[],0),.bool false]) (by simp[results,results184,go_sem,aG,s0,s1,s2]) rfl ⟨?_,Or.inr ⟨O hE,rfl,Sp.dgR l.tail,?_⟩⟩
 ·exact (((hkk2.setCell_new (by simp) _).setCell_new (by simp) _).setCell_new (by simp) _)
 ·exact (hr2.kept (((ab.refl w.heap.size w2).setCell (p:=⟨w.heap.size,0,none⟩) rfl _ |>.setCell (p:=⟨w.heap.size,1,none⟩) rfl _).setCell (p:=⟨w.heap.size,2,none⟩) rfl _) (by omega))
theorem Cv{w:World}{R:Nat}{t:ByteArray}{l:Sp.By}{tw:Bool}{dp fr:Int}(h:RD w R t l tw dp fr)(k1:Sp.tk l 45=true)(d:UInt8)(ds:Sp.By)(hd:Sp.dg l.tail=d::ds)(hz:¬ d=48)(hf:Sp.bV (Sp.dgR l.tail)=none) :
  Calls Tryz.prog 184 #[.pointer (some ⟨R,0,none⟩)] w fun e w'=>ab R w w'/\cB (Sp.num l) e w' R t tw dp fr:=by
 have hE:Hid (Sp.num l=none):=by
  unfold Hid Sp.num Sp.bT;have h1:Sp.tk l.tail 48=false:=by rw[fK hd];simpa using hz
  simp[k1,hd,hf,h1]
 have K1:=U k1;have HD:=U hd;have h0:=cG d ds (aB d ds);have g48:((((⟨(d::ds).toArray⟩:ByteArray)[0]'(aB d ds)).toNat:Int) == 48)=false:=by
  rw[h0];simp;intro h;exact hz (UInt8.toNat_inj.1 (by simpa using (show d.toNat=48 by omega)))
 have HF:=U hf;have hRw:=h.lt;have h2000:l.length<=2000:=by obtain⟨p,ha,_⟩:=h;have:=ha.len;have:=ha.small;omega
 clear k1 hd h0 hz hf
 go_enter func184,ntmps184
 go_wp2_with (fail);refine (am 45 _ rfl (h.alloc _) (O K1)).mono ?_
 rintro e w1 ⟨rfl,hr1,hk1⟩
 go_wp2_with (fail);refine (aF hr1).mono ?_
 rintro e w2 ⟨rfl,hr2,hk2⟩;rw[O HD];have hs2:=((bL.new w).kept hk1 (by omega)).kept hk2 (by omega);have hkk2:=(((ab.refl R w).alloc _).trans hk1).trans hk2
 go_wp2_with (fail);refine (bn hr2).mono ?_
 rintro e w3 ⟨hk3,hc⟩;have hs3:=hs2.kept hk3 (by omega);have hkk3:=hkk2.trans hk3;rcases hc with⟨s,l',e1,rfl,hr3⟩|⟨e1,s,l',rfl,hr3⟩
 ·rw[O HF] at e1;cases e1
 clear e1;have s0:=hs3.c0;have s1:=hs3.c1;have s2:=hs3.c2;have z0:=hs3.fz 0;have z1:=hs3.fz 1;have z2:=hs3.fz 2
 go_wp2_with (fail);refine bodyPost_ret (v:=.tuple #[aG (false,[],0),.bool false]) (by simp[results,results184,go_sem,aG,s0,s1,s2]) rfl ⟨?_,Or.inr ⟨O hE,rfl,l',?_⟩⟩
 ·exact (((hkk3.setCell_new (by simp) _).setCell_new (by simp) _).setCell_new (by simp) _)
 ·exact (hr3.kept (((ab.refl w.heap.size w3).setCell (p:=⟨w.heap.size,0,none⟩) rfl _ |>.setCell (p:=⟨w.heap.size,1,none⟩) rfl _).setCell (p:=⟨w.heap.size,2,none⟩) rfl _) (by omega))
theorem Cu{w:World}{R:Nat}{t:ByteArray}{l:Sp.By}{tw:Bool}{dp fr:Int}(h:RD w R t l tw dp fr)(k1:Sp.tk l 45=true)(d:UInt8)(ds:Sp.By)(hd:Sp.dg l.tail=d::ds)(hz:d=48)(hds:ds=[])(hf:Sp.bV (Sp.dgR l.tail)=none) :
  Calls Tryz.prog 184 #[.pointer (some ⟨R,0,none⟩)] w fun e w'=>ab R w w'/\cB (Sp.num l) e w' R t tw dp fr:=by
 have hE:Hid (Sp.num l=none):=by
  unfold Hid Sp.num Sp.bT;subst hds;simp[k1,hd,hf]
 have K1:=U k1;have HD:=U hd;have h0:=cG d ds (aB d ds);have g48:((((⟨(d::ds).toArray⟩:ByteArray)[0]'(aB d ds)).toNat:Int) == 48)=true:=by rw[h0,hz];rfl
 have gl:decide ((1:Int)<(ds.length:Int)+1)=false:=by subst hds;rfl
 have HF:=U hf;have hRw:=h.lt;have h2000:l.length<=2000:=by obtain⟨p,ha,_⟩:=h;have:=ha.len;have:=ha.small;omega
 clear k1 hd hds h0 hz hf
 go_enter func184,ntmps184
 go_wp2_with (fail);refine (am 45 _ rfl (h.alloc _) (O K1)).mono ?_
 rintro e w1 ⟨rfl,hr1,hk1⟩
 go_wp2_with (fail);refine (aF hr1).mono ?_
 rintro e w2 ⟨rfl,hr2,hk2⟩;rw[O HD];have hs2:=((bL.new w).kept hk1 (by omega)).kept hk2 (by omega);have hkk2:=(((ab.refl R w).alloc _).trans hk1).trans hk2
 go_wp2_with (fail);refine (bn hr2).mono ?_
 rintro e w3 ⟨hk3,hc⟩;have hs3:=hs2.kept hk3 (by omega);have hkk3:=hkk2.trans hk3;rcases hc with⟨s,l',e1,rfl,hr3⟩|⟨e1,s,l',rfl,hr3⟩
 ·rw[O HF] at e1;cases e1
 clear e1;have s0:=hs3.c0;have s1:=hs3.c1;have s2:=hs3.c2;have z0:=hs3.fz 0;have z1:=hs3.fz 1;have z2:=hs3.fz 2
 go_wp2_with (fail);refine bodyPost_ret (v:=.tuple #[aG (false,[],0),.bool false]) (by simp[results,results184,go_sem,aG,s0,s1,s2]) rfl ⟨?_,Or.inr ⟨O hE,rfl,l',?_⟩⟩
 ·exact (((hkk3.setCell_new (by simp) _).setCell_new (by simp) _).setCell_new (by simp) _)
 ·exact (hr3.kept (((ab.refl w.heap.size w3).setCell (p:=⟨w.heap.size,0,none⟩) rfl _ |>.setCell (p:=⟨w.heap.size,1,none⟩) rfl _).setCell (p:=⟨w.heap.size,2,none⟩) rfl _) (by omega))
theorem Ct{w:World}{R:Nat}{t:ByteArray}{l:Sp.By}{tw:Bool}{dp fr:Int}(h:RD w R t l tw dp fr)(k1:Sp.tk l 45=true)(d:UInt8)(ds:Sp.By)(hd:Sp.dg l.tail=d::ds)(hz:¬ d=48)(f l2:Sp.By)(hf:Sp.bV (Sp.dgR l.tail)=some (f,l2))(he:Sp.aW l2=none) :
  Calls Tryz.prog 184 #[.pointer (some ⟨R,0,none⟩)] w fun e w'=>ab R w w'/\cB (Sp.num l) e w' R t tw dp fr:=by
 have hE:Hid (Sp.num l=none):=by
  unfold Hid Sp.num Sp.bT;have h1:Sp.tk l.tail 48=false:=by rw[fK hd];simpa using hz
  simp[k1,hd,hf,he,h1]
 have K1:=U k1;have HD:=U hd;have h0:=cG d ds (aB d ds);have g48:((((⟨(d::ds).toArray⟩:ByteArray)[0]'(aB d ds)).toNat:Int) == 48)=false:=by
  rw[h0];simp;intro h;exact hz (UInt8.toNat_inj.1 (by simpa using (show d.toNat=48 by omega)))
 have HF:=U hf;have HX:=U he;have hRw:=h.lt;have h2000:l.length<=2000:=by obtain⟨p,ha,_⟩:=h;have:=ha.len;have:=ha.small;omega
 clear k1 hd h0 hz hf he
 go_enter func184,ntmps184
 go_wp2_with (fail);refine (am 45 _ rfl (h.alloc _) (O K1)).mono ?_
 rintro e w1 ⟨rfl,hr1,hk1⟩
 go_wp2_with (fail);refine (aF hr1).mono ?_
 rintro e w2 ⟨rfl,hr2,hk2⟩;rw[O HD];have hs2:=((bL.new w).kept hk1 (by omega)).kept hk2 (by omega);have hkk2:=(((ab.refl R w).alloc _).trans hk1).trans hk2
 go_wp2_with (fail);refine (bn hr2).mono ?_
 rintro e w3 ⟨hk3,hc⟩;have hs3:=hs2.kept hk3 (by omega);have hkk3:=hkk2.trans hk3;rcases hc with⟨s,l',e1,rfl,hr3⟩|⟨e1,_⟩
 rotate_left
 ·rw[O HF] at e1;cases e1
 rw[O HF] at e1;injection e1 with e1;injection e1 with e1 e2;subst e1 e2
 go_wp2_with (fail);refine (cC hr3).mono ?_
 rintro e w4 ⟨hk4,hc⟩;have hs4:=hs3.kept hk4 (by omega);have hkk4:=hkk3.trans hk4;rcases hc with⟨x',l',e1,rfl,hr4⟩|⟨e1,x',l',rfl,hr4⟩
 ·rw[O HX] at e1;cases e1
 clear e1;have s0:=hs4.c0;have s1:=hs4.c1;have s2:=hs4.c2;have z0:=hs4.fz 0;have z1:=hs4.fz 1;have z2:=hs4.fz 2
 go_wp2_with (fail);refine bodyPost_ret (v:=.tuple #[aG (false,[],0),.bool false]) (by simp[results,results184,go_sem,aG,s0,s1,s2]) rfl ⟨?_,Or.inr ⟨O hE,rfl,l',?_⟩⟩
 ·exact (((hkk4.setCell_new (by simp) _).setCell_new (by simp) _).setCell_new (by simp) _)
 ·exact (hr4.kept (((ab.refl w.heap.size w4).setCell (p:=⟨w.heap.size,0,none⟩) rfl _ |>.setCell (p:=⟨w.heap.size,1,none⟩) rfl _).setCell (p:=⟨w.heap.size,2,none⟩) rfl _) (by omega))
theorem Cs{w:World}{R:Nat}{t:ByteArray}{l:Sp.By}{tw:Bool}{dp fr:Int}(h:RD w R t l tw dp fr)(k1:Sp.tk l 45=true)(d:UInt8)(ds:Sp.By)(hd:Sp.dg l.tail=d::ds)(hz:d=48)(hds:ds=[])(f l2:Sp.By)(hf:Sp.bV (Sp.dgR l.tail)=some (f,l2))(he:Sp.aW l2=none) :
  Calls Tryz.prog 184 #[.pointer (some ⟨R,0,none⟩)] w fun e w'=>ab R w w'/\cB (Sp.num l) e w' R t tw dp fr:=by
 have hE:Hid (Sp.num l=none):=by
  unfold Hid Sp.num Sp.bT;subst hds;simp[k1,hd,hf,he]
 have K1:=U k1;have HD:=U hd;have h0:=cG d ds (aB d ds);have g48:((((⟨(d::ds).toArray⟩:ByteArray)[0]'(aB d ds)).toNat:Int) == 48)=true:=by rw[h0,hz];rfl
 have gl:decide ((1:Int)<(ds.length:Int)+1)=false:=by subst hds;rfl
 have HF:=U hf;have HX:=U he;have hRw:=h.lt;have h2000:l.length<=2000:=by obtain⟨p,ha,_⟩:=h;have:=ha.len;have:=ha.small;omega
 clear k1 hd hds h0 hz hf he
 go_enter func184,ntmps184
 go_wp2_with (fail);refine (am 45 _ rfl (h.alloc _) (O K1)).mono ?_
 rintro e w1 ⟨rfl,hr1,hk1⟩
 go_wp2_with (fail);refine (aF hr1).mono ?_
 rintro e w2 ⟨rfl,hr2,hk2⟩;rw[O HD];have hs2:=((bL.new w).kept hk1 (by omega)).kept hk2 (by omega);have hkk2:=(((ab.refl R w).alloc _).trans hk1).trans hk2
 go_wp2_with (fail);refine (bn hr2).mono ?_
 rintro e w3 ⟨hk3,hc⟩;have hs3:=hs2.kept hk3 (by omega);have hkk3:=hkk2.trans hk3;rcases hc with⟨s,l',e1,rfl,hr3⟩|⟨e1,_⟩
 rotate_left
 ·rw[O HF] at e1;cases e1
 rw[O HF] at e1;injection e1 with e1;injection e1 with e1 e2;subst e1 e2
 go_wp2_with (fail);refine (cC hr3).mono ?_
 rintro e w4 ⟨hk4,hc⟩;have hs4:=hs3.kept hk4 (by omega);have hkk4:=hkk3.trans hk4;rcases hc with⟨x',l',e1,rfl,hr4⟩|⟨e1,x',l',rfl,hr4⟩
 ·rw[O HX] at e1;cases e1
 clear e1;have s0:=hs4.c0;have s1:=hs4.c1;have s2:=hs4.c2;have z0:=hs4.fz 0;have z1:=hs4.fz 1;have z2:=hs4.fz 2
 go_wp2_with (fail);refine bodyPost_ret (v:=.tuple #[aG (false,[],0),.bool false]) (by simp[results,results184,go_sem,aG,s0,s1,s2]) rfl ⟨?_,Or.inr ⟨O hE,rfl,l',?_⟩⟩
 ·exact (((hkk4.setCell_new (by simp) _).setCell_new (by simp) _).setCell_new (by simp) _)
 ·exact (hr4.kept (((ab.refl w.heap.size w4).setCell (p:=⟨w.heap.size,0,none⟩) rfl _ |>.setCell (p:=⟨w.heap.size,1,none⟩) rfl _).setCell (p:=⟨w.heap.size,2,none⟩) rfl _) (by omega))
end Go.Proofs.YtdpomdelmdofmaaGreatDoor

set_option maxHeartbeats 4000000
namespace Go.Proofs.YtdpomdelmdofmaaGreatDoor
open Go.Proofs.Tryz
open Go.RowKit
theorem Cr{w:World}{R:Nat}{t:ByteArray}{l:Sp.By}{tw:Bool}{dp fr:Int}(h:RD w R t l tw dp fr)(k1:Sp.tk l 45=true)(d:UInt8)(ds:Sp.By)(hd:Sp.dg l.tail=d::ds)(hz:¬ d=48)(f l2:Sp.By)(hf:Sp.bV (Sp.dgR l.tail)=some (f,l2))(x:Int)(l3:Sp.By)(he:Sp.aW l2=some (x,l3)) :
  Calls Tryz.prog 184 #[.pointer (some ⟨R,0,none⟩)] w fun e w'=>ab R w w'/\cB (Sp.num l) e w' R t tw dp fr:=by
 have hE:Hid (Sp.num l=some (Sp.cX true (d::ds++f) (x-f.length),l3)):=by
  unfold Hid Sp.num Sp.bT;have h1:Sp.tk l.tail 48=false:=by rw[fK hd];simpa using hz
  simp[k1,hd,hf,he,h1]
 have K1:=U k1;have HD:=U hd;have h0:=cG d ds (aB d ds);have g48:((((⟨(d::ds).toArray⟩:ByteArray)[0]'(aB d ds)).toNat:Int) == 48)=false:=by
  rw[h0];simp;intro h;exact hz (UInt8.toNat_inj.1 (by simpa using (show d.toNat=48 by omega)))
 have HF:=U hf;have HX:=U he;have hRw:=h.lt;have h2000:l.length<=2000:=by obtain⟨p,ha,_⟩:=h;have:=ha.len;have:=ha.small;omega
 clear k1 hd h0 hz hf he
 go_enter func184,ntmps184
 go_wp2_with (fail);refine (am 45 _ rfl (h.alloc _) (O K1)).mono ?_
 rintro e w1 ⟨rfl,hr1,hk1⟩
 go_wp2_with (fail);refine (aF hr1).mono ?_
 rintro e w2 ⟨rfl,hr2,hk2⟩;rw[O HD];have hs2:=((bL.new w).kept hk1 (by omega)).kept hk2 (by omega);have hkk2:=(((ab.refl R w).alloc _).trans hk1).trans hk2
 go_wp2_with (fail);refine (bn hr2).mono ?_
 rintro e w3 ⟨hk3,hc⟩;have hs3:=hs2.kept hk3 (by omega);have hkk3:=hkk2.trans hk3;rcases hc with⟨s,l',e1,rfl,hr3⟩|⟨e1,_⟩
 rotate_left
 ·rw[O HF] at e1;cases e1
 rw[O HF] at e1;injection e1 with e1;injection e1 with e1 e2;subst e1 e2
 go_wp2_with (fail);refine (cC hr3).mono ?_
 rintro e w4 ⟨hk4,hc⟩;have hs4:=hs3.kept hk4 (by omega);have hkk4:=hkk3.trans hk4;rcases hc with⟨x',l',e1,rfl,hr4⟩|⟨e1,_⟩
 rotate_left
 ·rw[O HX] at e1;cases e1
 rw[O HX] at e1;injection e1 with e1;injection e1 with e1 e2;subst e1 e2;have hx1:=jH (O HX);have hfl:f.length<=2000:=by
  have:=eB (O HF);have:=bZ l.tail;have:=List.length_tail (l:=l);omega
 have hdl:ds.length+1<=2000:=by
  have e1:=bZ l.tail;rw[O HD] at e1;have e2:=List.length_tail (l:=l);rw[List.length_cons] at e1;omega
 have hcat:¬ 9223372036854775807<ds.length+1+f.length:=by omega
 go_wp2_with (fail);have hap:(⟨(d::ds).toArray⟩:ByteArray)++⟨f.toArray⟩=⟨(d::ds++f).toArray⟩:=by
  apply ByteArray.ext;simp
 rw[hap];refine (eX true (d::ds++f) (x-f.length) w4 (by omega) (by omega) (by simp;omega)).mono ?_;rintro e w5 ⟨rfl,hb5⟩;have hk5:=ab.of_below (X:=R) hb5;have hs5:=hs4.kept hk5 (by omega);have hkk5:=hkk4.trans hk5;obtain⟨q,ha,hq⟩:=hr4.kept (ab.of_below (X:=R+1) hb5) (by omega);generalize hn:Sp.cX true (d::ds++f) (x-f.length)=n at *;obtain⟨nb,nd,ne⟩:=n;have hne:-10000000<=ne/\ne<=10000000:=by
  have hm:=jy true (d::ds++f) (x-f.length);rw[hn] at hm;have e:(d::ds++f).length=ds.length+1+f.length:=by simp;omega
  rw[e] at hm;simp only at hm;omega
 have c4:∀o,(w5.alloc o).cell? ⟨R,4,none⟩=some (.int .i64 fr):=fun o=>(hq.alloc o).c4;have f4:∀o,(w5.alloc o).frozen? ⟨R,4,none⟩=false:=fun o=>(hq.alloc o).fz 4;have hs6:∀o,bL (w5.alloc o) w.heap.size:=fun o=>hs5.kept ((ab.refl R w5).alloc o) (by omega);have s0:=fun o=>(hs6 o).c0;have s1:=fun o=>(hs6 o).c1;have s2:=fun o=>(hs6 o).c2;have z0:=fun o=>(hs6 o).fz 0;have z1:=fun o=>(hs6 o).fz 1;have z2:=fun o=>(hs6 o).fz 2;have hz5:=hkk5.size;unfold aG
 go_wp2_with (fail)
 go_region
 go_wp2_with (fail);all_goals (
  refine bodyPost_ret (v:=.tuple #[aG (nb,nd,ne),.bool true]) (by simp[results,results184,go_sem,aG,s0,s1,s2]) rfl ⟨?_,Or.inl ⟨(nb,nd,ne),l3,O hE,rfl,⟨q,ha,lB hq _ _ _ _ _ _ _ (by omega) (by simp only;omega)⟩⟩⟩;exact ((((((hkk5.alloc _).setCell (p:=⟨R,4,none⟩) rfl _).setCell_new (by simp) _).setCell_new (by simp) _).setCell_new (by simp) _).drew))
theorem Cq{w:World}{R:Nat}{t:ByteArray}{l:Sp.By}{tw:Bool}{dp fr:Int}(h:RD w R t l tw dp fr)(k1:Sp.tk l 45=true)(d:UInt8)(ds:Sp.By)(hd:Sp.dg l.tail=d::ds)(hz:d=48)(hds:ds=[])(f l2:Sp.By)(hf:Sp.bV (Sp.dgR l.tail)=some (f,l2))(x:Int)(l3:Sp.By)(he:Sp.aW l2=some (x,l3)) :
  Calls Tryz.prog 184 #[.pointer (some ⟨R,0,none⟩)] w fun e w'=>ab R w w'/\cB (Sp.num l) e w' R t tw dp fr:=by
 have hE:Hid (Sp.num l=some (Sp.cX true (d::ds++f) (x-f.length),l3)):=by
  unfold Hid Sp.num Sp.bT;subst hds;simp[k1,hd,hf,he]
 have K1:=U k1;have HD:=U hd;have h0:=cG d ds (aB d ds);have g48:((((⟨(d::ds).toArray⟩:ByteArray)[0]'(aB d ds)).toNat:Int) == 48)=true:=by rw[h0,hz];rfl
 have gl:decide ((1:Int)<(ds.length:Int)+1)=false:=by subst hds;rfl
 have HF:=U hf;have HX:=U he;have hRw:=h.lt;have h2000:l.length<=2000:=by obtain⟨p,ha,_⟩:=h;have:=ha.len;have:=ha.small;omega
 clear k1 hd hds h0 hz hf he
 go_enter func184,ntmps184
 go_wp2_with (fail);refine (am 45 _ rfl (h.alloc _) (O K1)).mono ?_
 rintro e w1 ⟨rfl,hr1,hk1⟩
 go_wp2_with (fail);refine (aF hr1).mono ?_
 rintro e w2 ⟨rfl,hr2,hk2⟩;rw[O HD];have hs2:=((bL.new w).kept hk1 (by omega)).kept hk2 (by omega);have hkk2:=(((ab.refl R w).alloc _).trans hk1).trans hk2
 go_wp2_with (fail);refine (bn hr2).mono ?_
 rintro e w3 ⟨hk3,hc⟩;have hs3:=hs2.kept hk3 (by omega);have hkk3:=hkk2.trans hk3;rcases hc with⟨s,l',e1,rfl,hr3⟩|⟨e1,_⟩
 rotate_left
 ·rw[O HF] at e1;cases e1
 rw[O HF] at e1;injection e1 with e1;injection e1 with e1 e2;subst e1 e2
 go_wp2_with (fail);refine (cC hr3).mono ?_
 rintro e w4 ⟨hk4,hc⟩;have hs4:=hs3.kept hk4 (by omega);have hkk4:=hkk3.trans hk4;rcases hc with⟨x',l',e1,rfl,hr4⟩|⟨e1,_⟩
 rotate_left
 ·rw[O HX] at e1;cases e1
 rw[O HX] at e1;injection e1 with e1;injection e1 with e1 e2;subst e1 e2;have hx1:=jH (O HX);have hfl:f.length<=2000:=by
  have:=eB (O HF);have:=bZ l.tail;have:=List.length_tail (l:=l);omega
 have hdl:ds.length+1<=2000:=by
  have e1:=bZ l.tail;rw[O HD] at e1;have e2:=List.length_tail (l:=l);rw[List.length_cons] at e1;omega
 have hcat:¬ 9223372036854775807<ds.length+1+f.length:=by omega
 go_wp2_with (fail);have hap:(⟨(d::ds).toArray⟩:ByteArray)++⟨f.toArray⟩=⟨(d::ds++f).toArray⟩:=by
  apply ByteArray.ext;simp
 rw[hap];refine (eX true (d::ds++f) (x-f.length) w4 (by omega) (by omega) (by simp;omega)).mono ?_;rintro e w5 ⟨rfl,hb5⟩;have hk5:=ab.of_below (X:=R) hb5;have hs5:=hs4.kept hk5 (by omega);have hkk5:=hkk4.trans hk5;obtain⟨q,ha,hq⟩:=hr4.kept (ab.of_below (X:=R+1) hb5) (by omega);generalize hn:Sp.cX true (d::ds++f) (x-f.length)=n at *;obtain⟨nb,nd,ne⟩:=n;have hne:-10000000<=ne/\ne<=10000000:=by
  have hm:=jy true (d::ds++f) (x-f.length);rw[hn] at hm;have e:(d::ds++f).length=ds.length+1+f.length:=by simp;omega
  rw[e] at hm;simp only at hm;omega
 have c4:∀o,(w5.alloc o).cell? ⟨R,4,none⟩=some (.int .i64 fr):=fun o=>(hq.alloc o).c4;have f4:∀o,(w5.alloc o).frozen? ⟨R,4,none⟩=false:=fun o=>(hq.alloc o).fz 4;have hs6:∀o,bL (w5.alloc o) w.heap.size:=fun o=>hs5.kept ((ab.refl R w5).alloc o) (by omega);have s0:=fun o=>(hs6 o).c0;have s1:=fun o=>(hs6 o).c1;have s2:=fun o=>(hs6 o).c2;have z0:=fun o=>(hs6 o).fz 0;have z1:=fun o=>(hs6 o).fz 1;have z2:=fun o=>(hs6 o).fz 2;have hz5:=hkk5.size;unfold aG
 go_wp2_with (fail)
 go_region
 go_wp2_with (fail);all_goals (
  refine bodyPost_ret (v:=.tuple #[aG (nb,nd,ne),.bool true]) (by simp[results,results184,go_sem,aG,s0,s1,s2]) rfl ⟨?_,Or.inl ⟨(nb,nd,ne),l3,O hE,rfl,⟨q,ha,lB hq _ _ _ _ _ _ _ (by omega) (by simp only;omega)⟩⟩⟩;exact ((((((hkk5.alloc _).setCell (p:=⟨R,4,none⟩) rfl _).setCell_new (by simp) _).setCell_new (by simp) _).setCell_new (by simp) _).drew))
end Go.Proofs.YtdpomdelmdofmaaGreatDoor

namespace Go.Proofs.YtdpomdelmdofmaaGreatDoor
open Go.Proofs.Tryz
open Go.RowKit
theorem nl{w:World}{R:Nat}{t:ByteArray}{l:Sp.By}{tw:Bool}{dp fr:Int}(h:RD w R t l tw dp fr) :
  Calls Tryz.prog 184 #[.pointer (some ⟨R,0,none⟩)] w fun e w'=>ab R w w'/\cB (Sp.num l) e w' R t tw dp fr:=by
 by_cases k1:Sp.tk l 45=true
 ·cases hd:Sp.dg l.tail with
  | nil=>exact DR h k1 hd
  | cons d ds =>
   by_cases hz:d=48
   ·by_cases hl:1<ds.length+1
    ·exact DQ h k1 d ds hd hz hl
    ·have hds:ds=[]:=List.eq_nil_of_length_eq_zero (by omega);cases hf:Sp.bV (Sp.dgR l.tail) with
     | none=>exact Cu h k1 d ds hd hz hds hf
     | some y =>
      obtain⟨f,l2⟩:=y;cases he:Sp.aW l2 with
      | none=>exact Cs h k1 d ds hd hz hds f l2 hf he
      | some y =>
       obtain⟨x,l3⟩:=y;exact Cq h k1 d ds hd hz hds f l2 hf x l3 he
   ·cases hf:Sp.bV (Sp.dgR l.tail) with
    | none=>exact Cv h k1 d ds hd hz hf
    | some y =>
     obtain⟨f,l2⟩:=y;cases he:Sp.aW l2 with
     | none=>exact Ct h k1 d ds hd hz f l2 hf he
     | some y =>
      obtain⟨x,l3⟩:=y;exact Cr h k1 d ds hd hz f l2 hf x l3 he
 ·cases hd:Sp.dg l with
  | nil=>exact DP h (ak k1) hd
  | cons d ds =>
   by_cases hz:d=48
   ·by_cases hl:1<ds.length+1
    ·exact DN h (ak k1) d ds hd hz hl
    ·have hds:ds=[]:=List.eq_nil_of_length_eq_zero (by omega);cases hf:Sp.bV (Sp.dgR l) with
     | none=>exact Co h (ak k1) d ds hd hz hds hf
     | some y =>
      obtain⟨f,l2⟩:=y;cases he:Sp.aW l2 with
      | none=>exact Cm h (ak k1) d ds hd hz hds f l2 hf he
      | some y =>
       obtain⟨x,l3⟩:=y;exact Ck h (ak k1) d ds hd hz hds f l2 hf x l3 he
   ·cases hf:Sp.bV (Sp.dgR l) with
    | none=>exact Cp h (ak k1) d ds hd hz hf
    | some y =>
     obtain⟨f,l2⟩:=y;cases he:Sp.aW l2 with
     | none=>exact Cn h (ak k1) d ds hd hz f l2 hf he
     | some y =>
      obtain⟨x,l3⟩:=y;exact Cl h (ak k1) d ds hd hz f l2 hf x l3 he
end Go.Proofs.YtdpomdelmdofmaaGreatDoor

set_option maxHeartbeats 4000000
namespace Go.Proofs.YtdpomdelmdofmaaGreatDoor
open Go.Proofs.Tryz
open Go.RowKit
theorem kV{l:Sp.By}{n:Sp.Nm}{r:Sp.By}(h:Sp.num l=some (n,r))(hl:l.length<=2000):-10000000<=n.2.2/\n.2.2<=10000000:=by
 have hb:∀ (b:Bool) (l:Sp.By),l.length<=2000->Sp.bT b l=some (n,r) -> -10000000<=n.2.2/\n.2.2<=10000000:=by
  intro b l hl h;unfold Sp.bT at h;have a:=bZ l;split at h
  ·cases h
  ·split at h
   ·cases h
   ·rename_i f r1 h1;have a2:=eB h1;split at h
    ·cases h
    ·rename_i e r2 h2;have a3:=jH h2;have a4:=jy b (Sp.dg l++f) (e-f.length);simp only[List.length_append] at a4;injection h with h;injection h with h3 h4;subst h3;omega
 unfold Sp.num at h;split at h
 ·exact hb _ _ (by have:=List.length_tail (l:=l);omega) h
 ·exact hb _ _ hl h
theorem BE{f R:Nat}{t:ByteArray}{lv:Int}{l:Sp.By}{tw:Bool}{dp fr:Int}{w:World}(hV:gI f)(h:RD w R t l tw dp fr)(hT:ae w)(hR:NG<=R)(hl:l.length<=f)(hlv:0<=lv)(hb:lv+f<=4999)(hp:Sp.pk l=123) :
  Calls Tryz.prog 137 #[.pointer (some ⟨R,0,none⟩),.int .i64 lv] w fun e w'=>ab R w w'/\iw (f+1) lv l (tw,dp,fr) e w w' R t:=by
 obtain⟨q,ha,hq⟩:=h;have h2000:l.length<=2000:=by have:=ha.len;have:=ha.small;omega
 have c3:=hq.c3;have z3:=hq.fz 3;have hr0:RD (w.setCell ⟨R,3,none⟩ (.int .i64 (max dp lv))) R t l tw (max dp lv) fr:=⟨q,ha,hq.set3 (max dp lv)⟩
 have hk0:ab R w (w.setCell ⟨R,3,none⟩ (.int .i64 (max dp lv))):=(ab.refl R w).setCell rfl _;have hT0:=hT.kept hk0 hR;have hs0:(w.setCell ⟨R,3,none⟩ (.int .i64 (max dp lv))).heap.size=w.heap.size:=by simp[World.setCell]
 have e123:((Sp.pk l:Int) == 123)=true:=by simp;omega
 have HV:Hid (Sp.val (f+1) lv l (tw,dp,fr)=(match Sp.bt 123 125 (Sp.dA (Sp.val f (lv+1))) l (Sp.az [],(tw,(max dp lv,fr))) with
   | none=>none
   | some (r,(v,fl'))=>some (v,r,fl'))):=by
  unfold Hid;rw[Sp.val,if_pos hp];rfl
 clear hq ha hT
 go_enter func137,ntmps137
 go_wp2_with (fail);refine (gF hr0).mono ?_
 rintro e w1 ⟨rfl,hr1,hk1⟩;have hk01:=hk0.trans hk1;have hT1:=hT0.kept hk1 hR;have hs1:=hk01.size
 go_wp2_with (fail);refine (uQ hV hr1 hT1 hR hl hlv hb).mono ?_
 rintro e w2 ⟨hk2,hc⟩;rcases hc with⟨v,r,fl',p,hs,rfl,hr2,hrep⟩|⟨hs,p,rfl,hr2⟩
 ·have HS:=U hs;clear hs
  go_wp2_with (fail)
  go_ret2
  refine⟨hk01.trans hk2,Or.inl ⟨v,r,fl',p,?_,rfl,hr2,hrep.move (by omega) fun k h1 _=>rfl⟩⟩;rw[O HV,O HS]
 ·have HS:=U hs;clear hs
  go_wp2_with (fail)
  go_ret2
  refine⟨hk01.trans hk2,Or.inr ⟨?_,p,rfl,hr2⟩⟩;rw[O HV,O HS]
theorem BI{f R:Nat}{t:ByteArray}{lv:Int}{l:Sp.By}{tw:Bool}{dp fr:Int}{w:World}(hV:gI f)(h:RD w R t l tw dp fr)(hT:ae w)(hR:NG<=R)(hl:l.length<=f)(hlv:0<=lv)(hb:lv+f<=4999)(hp:Sp.pk l=91) :
  Calls Tryz.prog 137 #[.pointer (some ⟨R,0,none⟩),.int .i64 lv] w fun e w'=>ab R w w'/\iw (f+1) lv l (tw,dp,fr) e w w' R t:=by
 obtain⟨q,ha,hq⟩:=h;have h2000:l.length<=2000:=by have:=ha.len;have:=ha.small;omega
 have c3:=hq.c3;have z3:=hq.fz 3;have hr0:RD (w.setCell ⟨R,3,none⟩ (.int .i64 (max dp lv))) R t l tw (max dp lv) fr:=⟨q,ha,hq.set3 (max dp lv)⟩
 have hk0:ab R w (w.setCell ⟨R,3,none⟩ (.int .i64 (max dp lv))):=(ab.refl R w).setCell rfl _;have hT0:=hT.kept hk0 hR;have hs0:(w.setCell ⟨R,3,none⟩ (.int .i64 (max dp lv))).heap.size=w.heap.size:=by simp[World.setCell]
 have e123:((Sp.pk l:Int) == 123)=false:=by simp;omega
 have e91:((Sp.pk l:Int) == 91)=true:=by simp;omega
 have HV:Hid (Sp.val (f+1) lv l (tw,dp,fr)=(match Sp.bt 91 93 (Sp.dW (Sp.val f (lv+1))) l ([],(tw,(max dp lv,fr))) with
   | none=>none
   | some (r,(es,fl'))=>some (Sp.au es,r,fl'))):=by
  unfold Hid;rw[Sp.val,if_neg (by omega),if_pos hp];rfl
 clear hq ha hT
 go_enter func137,ntmps137
 go_wp2_with (fail);refine (gF hr0).mono ?_
 rintro e w1 ⟨rfl,hr1,hk1⟩;have hk01:=hk0.trans hk1;have hT1:=hT0.kept hk1 hR;have hs1:=hk01.size
 go_wp2_with (fail);refine (yM hV hr1 hT1 hR hl hlv hb).mono ?_
 rintro e w2 ⟨hk2,hc⟩;rcases hc with⟨es,r,fl',p,hs,rfl,hr2,hrep⟩|⟨hs,p,rfl,hr2⟩
 ·have HS:=U hs;clear hs
  go_wp2_with (fail)
  go_ret2
  refine⟨hk01.trans hk2,Or.inl ⟨Sp.au es,r,fl',p,?_,rfl,hr2,hrep.move (by omega) fun k h1 _=>rfl⟩⟩;rw[O HV,O HS]
 ·have HS:=U hs;clear hs
  go_wp2_with (fail)
  go_ret2
  refine⟨hk01.trans hk2,Or.inr ⟨?_,p,rfl,hr2⟩⟩;rw[O HV,O HS]
theorem BD{f R:Nat}{t:ByteArray}{lv:Int}{l:Sp.By}{tw:Bool}{dp fr:Int}{w:World}(h:RD w R t l tw dp fr)(hT:ae w)(hR:NG<=R)(hp:Sp.pk l=34) :
  Calls Tryz.prog 137 #[.pointer (some ⟨R,0,none⟩),.int .i64 lv] w fun e w'=>ab R w w'/\iw (f+1) lv l (tw,dp,fr) e w w' R t:=by
 obtain⟨q,ha,hq⟩:=h;have h2000:l.length<=2000:=by have:=ha.len;have:=ha.small;omega
 have c3:=hq.c3;have z3:=hq.fz 3;have hr0:RD (w.setCell ⟨R,3,none⟩ (.int .i64 (max dp lv))) R t l tw (max dp lv) fr:=⟨q,ha,hq.set3 (max dp lv)⟩
 have hk0:ab R w (w.setCell ⟨R,3,none⟩ (.int .i64 (max dp lv))):=(ab.refl R w).setCell rfl _;have hT0:=hT.kept hk0 hR;have hs0:(w.setCell ⟨R,3,none⟩ (.int .i64 (max dp lv))).heap.size=w.heap.size:=by simp[World.setCell]
 have e123:((Sp.pk l:Int) == 123)=false:=by simp;omega
 have e91:((Sp.pk l:Int) == 91)=false:=by simp;omega
 have e34:((Sp.pk l:Int) == 34)=true:=by simp;omega
 have HV:Hid (Sp.val (f+1) lv l (tw,dp,fr)=(match Sp.quo l with
   | none=>none
   | some (s,r)=>some (Sp.aD s,r,(tw,(max dp lv,fr))))):=by
  unfold Hid;rw[Sp.val,if_neg (by omega),if_neg (by omega),if_pos hp];rfl
 clear hq ha hT
 go_enter func137,ntmps137
 go_wp2_with (fail);refine (gF hr0).mono ?_
 rintro e w1 ⟨rfl,hr1,hk1⟩;have hk01:=hk0.trans hk1;have hT1:=hT0.kept hk1 hR;have hs1:=hk01.size
 go_wp2_with (fail);refine (m6 hr1 hT1 hR).mono ?_
 rintro e w2 ⟨hk2,hc⟩;have hk02:=hk01.trans hk2;have hs2:=hk2.size;rcases hc with⟨s,r,hs,rfl,hr2⟩|⟨hs,s,r,rfl,hr2⟩
 ·have HS:=U hs;clear hs
  go_wp2_with (fail)
  go_ret2
  refine⟨hk02.alloc _,Or.inl ⟨Sp.aD s,r,(tw,(max dp lv,fr)),some ⟨w2.heap.size,0,none⟩,?_,rfl,hr2.alloc _,Tr.leafS (by omega) (gu _ _ _ rfl)⟩⟩;rw[O HV,O HS]
 ·have HS:=U hs;clear hs
  go_wp2_with (fail)
  go_ret2
  refine⟨hk02.alloc _,Or.inr ⟨?_,_,rfl,_,_,_,_,hr2.alloc _⟩⟩;rw[O HV,O HS]
theorem BG{f R:Nat}{t:ByteArray}{lv:Int}{l:Sp.By}{tw:Bool}{dp fr:Int}{w:World}(h:RD w R t l tw dp fr)(hT:ae w)(hR:NG<=R)(hp:Sp.pk l=45) :
  Calls Tryz.prog 137 #[.pointer (some ⟨R,0,none⟩),.int .i64 lv] w fun e w'=>ab R w w'/\iw (f+1) lv l (tw,dp,fr) e w w' R t:=by
 obtain⟨q,ha,hq⟩:=h;have h2000:l.length<=2000:=by have:=ha.len;have:=ha.small;omega
 have c3:=hq.c3;have z3:=hq.fz 3;have hr0:RD (w.setCell ⟨R,3,none⟩ (.int .i64 (max dp lv))) R t l tw (max dp lv) fr:=⟨q,ha,hq.set3 (max dp lv)⟩
 have hk0:ab R w (w.setCell ⟨R,3,none⟩ (.int .i64 (max dp lv))):=(ab.refl R w).setCell rfl _;have hT0:=hT.kept hk0 hR;have hs0:(w.setCell ⟨R,3,none⟩ (.int .i64 (max dp lv))).heap.size=w.heap.size:=by simp[World.setCell]
 have e123:((Sp.pk l:Int) == 123)=false:=by simp;omega
 have e91:((Sp.pk l:Int) == 91)=false:=by simp;omega
 have e34:((Sp.pk l:Int) == 34)=false:=by simp;omega
 have e45:((Sp.pk l:Int) == 45)=true:=by simp;omega
 have HV:Hid (Sp.val (f+1) lv l (tw,dp,fr)=(match Sp.num l with
   | none=>none
   | some (n,r)=>some (Sp.bw n,r,(tw,(max dp lv,max (max fr n.2.2) (-n.2.2)))))):=by
  unfold Hid;rw[Sp.val,if_neg (by omega),if_neg (by omega),if_neg (by omega),if_pos (by omega)];rfl
 clear hq ha hT
 go_enter func137,ntmps137
 go_wp2_with (fail);refine (gF hr0).mono ?_
 rintro e w1 ⟨rfl,hr1,hk1⟩;have hk01:=hk0.trans hk1;have hT1:=hT0.kept hk1 hR;have hs1:=hk01.size
 go_wp2_with (fail);refine (nl hr1).mono ?_
 rintro e w2 ⟨hk2,hc⟩;have hk02:=hk01.trans hk2;have hs2:=hk2.size;rcases hc with⟨n,r,hs,rfl,hr2⟩|⟨hs,rfl,r,hr2⟩
 ·have HS:=U hs;obtain⟨nb,nd,ne⟩:=n;clear hs;unfold aG
  go_wp2_with (fail)
  go_ret2
  refine⟨(hk02.alloc _).alloc _,Or.inl ⟨Sp.bw (nb,nd,ne),r,(tw,(max dp lv,max (max fr ne) (-ne))),some ⟨w2.heap.size+1,0,none⟩,?_,rfl,(hr2.alloc _).alloc _,Tr.leafN (by omega) (gu _ _ _ (by simp)) ⟨by have:=kV (O HS) h2000;simp only at this |-; omega,by have:=kV (O HS) h2000;simp only at this |-; omega⟩⟩⟩;rw[O HV,O HS]
 ·have HS:=U hs;clear hs;unfold aG
  go_wp2_with (fail)
  go_ret2
  refine⟨(hk02.alloc _).alloc _,Or.inr ⟨?_,_,rfl,_,_,_,_,(hr2.alloc _).alloc _⟩⟩;rw[O HV,O HS]
theorem BF{f R:Nat}{t:ByteArray}{lv:Int}{l:Sp.By}{tw:Bool}{dp fr:Int}{w:World}(h:RD w R t l tw dp fr)(hT:ae w)(hR:NG<=R)(hp:48<=Sp.pk l/\Sp.pk l<=57) :
  Calls Tryz.prog 137 #[.pointer (some ⟨R,0,none⟩),.int .i64 lv] w fun e w'=>ab R w w'/\iw (f+1) lv l (tw,dp,fr) e w w' R t:=by
 obtain⟨q,ha,hq⟩:=h;have h2000:l.length<=2000:=by have:=ha.len;have:=ha.small;omega
 have c3:=hq.c3;have z3:=hq.fz 3;have hr0:RD (w.setCell ⟨R,3,none⟩ (.int .i64 (max dp lv))) R t l tw (max dp lv) fr:=⟨q,ha,hq.set3 (max dp lv)⟩
 have hk0:ab R w (w.setCell ⟨R,3,none⟩ (.int .i64 (max dp lv))):=(ab.refl R w).setCell rfl _;have hT0:=hT.kept hk0 hR;have hs0:(w.setCell ⟨R,3,none⟩ (.int .i64 (max dp lv))).heap.size=w.heap.size:=by simp[World.setCell]
 have e123:((Sp.pk l:Int) == 123)=false:=by simp;omega
 have e91:((Sp.pk l:Int) == 91)=false:=by simp;omega
 have e34:((Sp.pk l:Int) == 34)=false:=by simp;omega
 have e45:((Sp.pk l:Int) == 45)=false:=by simp;omega
 have HV:Hid (Sp.val (f+1) lv l (tw,dp,fr)=(match Sp.num l with
   | none=>none
   | some (n,r)=>some (Sp.bw n,r,(tw,(max dp lv,max (max fr n.2.2) (-n.2.2)))))):=by
  unfold Hid;rw[Sp.val,if_neg (by omega),if_neg (by omega),if_neg (by omega),if_pos (by omega)];rfl
 clear hq ha hT
 go_enter func137,ntmps137
 go_wp2_with (fail);refine (gF hr0).mono ?_
 rintro e w1 ⟨rfl,hr1,hk1⟩;have hk01:=hk0.trans hk1;have hT1:=hT0.kept hk1 hR;have hs1:=hk01.size;have HD:=U (show dr (Sp.pk l)=true by unfold dr;simp;omega)
 go_wp2_with (fail);refine (b6 _ _ (m7 l)).mono ?_
 rintro e w9 ⟨rfl,rfl⟩;rw[O HD]
 go_wp2_with (fail);refine (nl hr1).mono ?_
 rintro e w2 ⟨hk2,hc⟩;have hk02:=hk01.trans hk2;have hs2:=hk2.size;rcases hc with⟨n,r,hs,rfl,hr2⟩|⟨hs,rfl,r,hr2⟩
 ·have HS:=U hs;obtain⟨nb,nd,ne⟩:=n;clear hs;unfold aG
  go_wp2_with (fail)
  go_ret2
  refine⟨(hk02.alloc _).alloc _,Or.inl ⟨Sp.bw (nb,nd,ne),r,(tw,(max dp lv,max (max fr ne) (-ne))),some ⟨w2.heap.size+1,0,none⟩,?_,rfl,(hr2.alloc _).alloc _,Tr.leafN (by omega) (gu _ _ _ (by simp)) ⟨by have:=kV (O HS) h2000;simp only at this |-; omega,by have:=kV (O HS) h2000;simp only at this |-; omega⟩⟩⟩;rw[O HV,O HS]
 ·have HS:=U hs;clear hs;unfold aG
  go_wp2_with (fail)
  go_ret2
  refine⟨(hk02.alloc _).alloc _,Or.inr ⟨?_,_,rfl,_,_,_,_,(hr2.alloc _).alloc _⟩⟩;rw[O HV,O HS]
theorem BC{f R:Nat}{t:ByteArray}{lv:Int}{l:Sp.By}{tw:Bool}{dp fr:Int}{w:World}(h:RD w R t l tw dp fr)(hT:ae w)(hR:NG<=R)(h1:¬ Sp.pk l=123)(h2:¬ Sp.pk l=91)(h3:¬ Sp.pk l=34)(h4:¬ Sp.pk l=45)(h5:¬ (48<=Sp.pk l/\Sp.pk l<=57)) :
  Calls Tryz.prog 137 #[.pointer (some ⟨R,0,none⟩),.int .i64 lv] w fun e w'=>ab R w w'/\iw (f+1) lv l (tw,dp,fr) e w w' R t:=by
 obtain⟨q,ha,hq⟩:=h;have h2000:l.length<=2000:=by have:=ha.len;have:=ha.small;omega
 have c3:=hq.c3;have z3:=hq.fz 3;have hr0:RD (w.setCell ⟨R,3,none⟩ (.int .i64 (max dp lv))) R t l tw (max dp lv) fr:=⟨q,ha,hq.set3 (max dp lv)⟩
 have hk0:ab R w (w.setCell ⟨R,3,none⟩ (.int .i64 (max dp lv))):=(ab.refl R w).setCell rfl _;have hT0:=hT.kept hk0 hR;have hs0:(w.setCell ⟨R,3,none⟩ (.int .i64 (max dp lv))).heap.size=w.heap.size:=by simp[World.setCell]
 have e123:((Sp.pk l:Int) == 123)=false:=by simp;omega
 have e91:((Sp.pk l:Int) == 91)=false:=by simp;omega
 have e34:((Sp.pk l:Int) == 34)=false:=by simp;omega
 have e45:((Sp.pk l:Int) == 45)=false:=by simp;omega
 have HV:Hid (Sp.val (f+1) lv l (tw,dp,fr)=(match Sp.dh l 0 Sp.words with
   | none=>none
   | some (k,r)=>some (Sp.cn k,r,(tw,(max dp lv,fr))))):=by
  unfold Hid;rw[Sp.val,if_neg (by omega),if_neg (by omega),if_neg (by omega),if_neg (by omega)];rfl
 clear hq ha hT
 go_enter func137,ntmps137
 go_wp2_with (fail);refine (gF hr0).mono ?_
 rintro e w1 ⟨rfl,hr1,hk1⟩;have hk01:=hk0.trans hk1;have hT1:=hT0.kept hk1 hR;have hs1:=hk01.size;have HD:=U (show dr (Sp.pk l)=false by unfold dr;simp;omega)
 go_wp2_with (fail);refine (b6 _ _ (m7 l)).mono ?_
 rintro e w9 ⟨rfl,rfl⟩;rw[O HD]
 go_wp2_with (fail);refine (yV hr1 hT1).mono ?_
 rintro e w2 ⟨hk2,hc⟩;have hk02:=hk01.trans hk2;rcases hc with⟨k,r,b,hs,rfl,hk3,hvb,hb2,hr2⟩|⟨hs,rfl,hr2⟩
 ·have HS:=U hs;clear hs
  go_wp2_with (fail)
  go_ret2
  refine⟨hk02,Or.inl ⟨Sp.cn k,r,(tw,(max dp lv,fr)),some ⟨b,0,none⟩,?_,rfl,hr2,Tr.leafW (by omega) hk3 hvb⟩⟩;rw[O HV,O HS]
 ·have HS:=U hs;clear hs
  go_wp2_with (fail)
  go_ret2
  refine⟨hk02,Or.inr ⟨?_,none,rfl,_,_,_,_,hr2⟩⟩;rw[O HV,O HS]
theorem Dh(f:Nat):gI f:=by
 induction f with
 | zero=>intro R t lv l tw dp fr w _ _ _ hl;omega
 | succ f ih =>
  intro R t lv l tw dp fr w h hT hR hl hlv hb;have hl':l.length<=f:=by omega
  have hb':lv+f<=4999:=by omega
  by_cases h1:Sp.pk l=123
  ·exact BE ih h hT hR hl' hlv hb' h1
  ·by_cases h2:Sp.pk l=91
   ·exact BI ih h hT hR hl' hlv hb' h2
   ·by_cases h3:Sp.pk l=34
    ·exact BD h hT hR h3
    ·by_cases h4:Sp.pk l=45
     ·exact BG h hT hR h4
     ·by_cases h5:48<=Sp.pk l/\Sp.pk l<=57
      ·exact BF h hT hR h5
      ·exact BC h hT hR h1 h2 h3 h4 h5
end Go.Proofs.YtdpomdelmdofmaaGreatDoor

set_option maxHeartbeats 4000000
namespace Go.Proofs.YtdpomdelmdofmaaGreatDoor
open Go.Proofs.Tryz
open Go.RowKit
def top:Nat:=2001
theorem gK:top=2001:=rfl
def Sp.readTo(t:Sp.By)(depth ex:Int):Nat×Option Sp.V :=
 if 2000<t.length then (4,none) else
 match Sp.val top 1 (Sp.skB t) (false,(0,0)) with
 | none=>(5,none)
 | some (v,r,fl)=>if (Sp.skB r).isEmpty then (if fl.1 then (6,none) else if depth<fl.2.1 then (7,none) else if ex<fl.2.2 then (8,none) else (0,some v)) else (5,none)
theorem Tr.drewN{f lo:Nat}{w:World}{v:Value}{d:Sp.V}(h:Tr f lo w v d)(n:Nat):Tr f lo (w.drewN n) v d:=h.move (Nat.le_refl _) fun _ _ _=>rfl
def yW(l:Sp.By)(fl:Sp.Fl)(e:Ending)(w w':World)(R:Nat)(t:ByteArray):Prop :=
 (∃v r fl' p,Sp.val top 1 (Sp.skB l) fl=some (v,r,fl')/\e = .returned (.tuple #[.pointer p,.bool (Sp.skB r).isEmpty])/\RD w' R t (Sp.skB r) fl'.1 fl'.2.1 fl'.2.2/\Tr top w.heap.size w' (.pointer p) v) \/
  (Sp.val top 1 (Sp.skB l) fl=none /\ ∃p,e = .returned (.tuple #[.pointer p,.bool false]) /\ ∃r tw dp fr,RD w' R t r tw dp fr)
theorem vX{R:Nat}{t:ByteArray}{l:Sp.By}{tw:Bool}{dp fr:Int}{w:World}(h:RD w R t l tw dp fr)(hT:ae w)(hR:NG<=R) :
  Calls Tryz.prog 102 #[.pointer (some ⟨R,0,none⟩)] w fun e w'=>ab R w w'/\yW l (tw,(dp,fr)) e w w' R t:=by
 have hRl:=h.lt;have h2000:l.length<=2000:=by obtain⟨p,ha,_⟩:=h;have:=ha.len;have:=ha.small;omega
 have hsk:=Sp.a8 l;have htop:=gK
 go_enter func102,ntmps102
 go_wp2_with (fail);refine (cA h).mono ?_
 rintro e w1 ⟨rfl,hr1,hk1⟩
 go_wp2_with (fail);refine (Dh top R t 1 _ _ _ _ w1 hr1 (hT.kept hk1 hR) hR (by omega) (by omega) (by omega)).mono ?_
 rintro e w2 ⟨hk2,hc⟩;have hk02:=hk1.trans hk2;have hs1:=hk1.size;rcases hc with⟨v,r,fl',p,hs,rfl,hr2,hrep⟩|⟨hs,p,rfl,hr2⟩
 ·have HS:=U hs;clear hs hT
  go_wp2_with (fail);refine (cA hr2).mono ?_
  rintro e w3 ⟨rfl,hr3,hk3⟩;have hrep3:Tr top w.heap.size w3 (.pointer p) v:=hrep.move (by omega) fun k h1 h2=>hk3.block k h2 (by omega);obtain⟨q,ha,hq⟩:=hr3;have c0:=hq.c0;have c1:=hq.c1;have hem:((q:Int) == (t.size:Int))=(Sp.skB r).isEmpty:=by
   have e1:=ha.len;have e2:=ha.le;cases hx:Sp.skB r with
   | nil=>rw[hx] at e1;simp at e1 |-; omega
   | cons a b=>rw[hx] at e1;simp at e1 |-; omega
  have HE:=U hem;have HA:=U ha;have HQ:=U hq;clear ha hq hem
  go_wp2_with (fail)
  go_quiet (fail)
  go_wp2_with (fail);rw[O HE]
  go_ret2
  exact⟨(hk02.trans hk3).drewN _,Or.inl ⟨v,r,fl',p,O HS,rfl,⟨q,O HA,(O HQ).drewN _⟩,hrep3.drewN _⟩⟩
 ·have HS:=U hs;clear hs hT
  go_wp2_with (fail)
  go_ret2
  exact⟨hk02,Or.inr ⟨O HS,none,rfl,hr2⟩⟩
def B8(t:Sp.By)(depth ex:Int)(e:Ending)(w w':World):Prop :=
 (∃c,Sp.readTo t depth ex=(c,none)/\0<c/\e = .returned (.tuple #[.pointer none,.int .i64 (c:Nat)])) \/
  (∃v p,Sp.readTo t depth ex=(0,some v)/\e = .returned (.tuple #[.pointer (some p),.int .i64 0])/\Tr top w.heap.size w' (.pointer (some p)) v)
theorem sD{t:Sp.By}{d x:Int}(h:2000<t.length):Sp.readTo t d x=(4,none):=by unfold Sp.readTo;rw[if_pos h]
theorem sC{t:Sp.By}{d x:Int}(h:¬ 2000<t.length)(hv:Sp.val top 1 (Sp.skB t) (false,(0,0))=none):Sp.readTo t d x=(5,none):=by unfold Sp.readTo;rw[if_neg h,hv]
theorem lU{t:Sp.By}{d x:Int}(h:¬ 2000<t.length){v:Sp.V}{r:Sp.By}{fl:Sp.Fl}(hv:Sp.val top 1 (Sp.skB t) (false,(0,0))=some (v,r,fl)) :
  Sp.readTo t d x=if (Sp.skB r).isEmpty then (if fl.1 then (6,none) else if d<fl.2.1 then (7,none) else if x<fl.2.2 then (8,none) else (0,some v)) else (5,none):=by unfold Sp.readTo;rw[if_neg h,hv]
theorem Be(s:ByteArray)(depth ex:Int)(w:World)(hT:ae w) :
  Calls Tryz.prog 77 #[.string s,.int .i64 depth,.int .i64 ex] w fun e w'=>Below w.heap.size w w'/\B8 s.data.toList depth ex e w w':=by
 have hlen:s.data.toList.length=s.size:=(Lib.size_eq s).symm;by_cases hl:2000<s.size
 ·have h0:=U (sD (d:=depth) (x:=ex) (show 2000<s.data.toList.length by omega));have e0:decide ((2000:Int)<(s.size:Int))=true:=by simp;omega
  clear hT hlen
  go_enter func77,ntmps77
  go_wp2_with (fail)
  go_ret2
  exact⟨Below.refl _ _,Or.inl ⟨4,O h0,by omega,rfl⟩⟩
 ·have e0:decide ((2000:Int)<(s.size:Int))=false:=by simp;omega
  have hn:¬ 2000<s.data.toList.length:=by omega
  have hR:=hT.ng;have hk0:ab w.heap.size w (w.alloc (.cells #[.string s,.int .i64 0,.bool false,.int .i64 0,.int .i64 0] 155)):=(ab.refl _ w).alloc _;have hr0:RD (w.alloc (.cells #[.string s,.int .i64 0,.bool false,.int .i64 0,.int .i64 0] 155)) w.heap.size s s.data.toList false 0 0:=by
   refine⟨0,⟨by omega,by omega,rfl⟩,?_⟩;show (w.heap.push _)[w.heap.size]? = _;simp
  have hT0:=hT.kept (X:=w.heap.size) hk0 hR;clear hT
  go_enter func77,ntmps77
  go_wp2_with (fail);refine (vX hr0 hT0 hR).mono ?_
  rintro e w2 ⟨hk2,hc⟩;have hk02:=hk0.trans hk2;have hb2:Below w.heap.size w w2:=hk02.below (Nat.le_refl _) (Nat.le_refl _);rcases hc with⟨v,r,fl',p,hs,rfl,hr2,hrep⟩|⟨hs,p,rfl,hr2⟩
  ·have h0:=U (lU (d:=depth) (x:=ex) hn hs);obtain⟨tw,dp,fr⟩:=fl';obtain⟨bb,rfl⟩:∃bb,p=some bb:=by
    obtain⟨b,hb,_⟩:=hrep.ptr;injection hb with hb;exact⟨_,hb⟩
   have hrep':Tr top w.heap.size w2 (.pointer (some bb)) v:=hrep.move (by simp) fun k h1 _=>rfl;obtain⟨q,ha,hq⟩:=hr2;simp only at hq;have c2:=hq.c2;have c3:=hq.c3;have c4:=hq.c4;clear hs hr0 ha hq hrep;cases hem:(Sp.skB r).isEmpty with
   | false =>
    have h1:=U (show Sp.readTo s.data.toList depth ex=(5,none) from by rw[O h0,hem];rfl);clear hem h0
    go_wp2_with (fail)
    go_ret2
    exact⟨hb2,Or.inl ⟨5,O h1,by omega,rfl⟩⟩
   | true =>
    cases htw:tw with
    | true =>
     have h1:=U (show Sp.readTo s.data.toList depth ex=(6,none) from by rw[O h0,hem];simp[htw]);subst htw;clear hem h0
     go_wp2_with (fail)
     go_ret2
     exact⟨hb2,Or.inl ⟨6,O h1,by omega,rfl⟩⟩
    | false =>
     subst htw;by_cases h7:depth<dp
     ·have h1:=U (show Sp.readTo s.data.toList depth ex=(7,none) from by rw[O h0,hem];simp[h7]);have e7:decide (depth<dp)=true:=by simpa using h7
      clear hem h0
      go_wp2_with (fail)
      go_ret2
      exact⟨hb2,Or.inl ⟨7,O h1,by omega,rfl⟩⟩
     ·have e7:decide (depth<dp)=false:=by simpa using h7
      by_cases h8:ex<fr
      ·have h1:=U (show Sp.readTo s.data.toList depth ex=(8,none) from by rw[O h0,hem];simp[h7,h8]);have e8:decide (ex<fr)=true:=by simpa using h8
       clear hem h0
       go_wp2_with (fail)
       go_ret2
       exact⟨hb2,Or.inl ⟨8,O h1,by omega,rfl⟩⟩
      ·have h1:=U (show Sp.readTo s.data.toList depth ex=(0,some v) from by rw[O h0,hem];simp[h7,h8]);have e8:decide (ex<fr)=false:=by simpa using h8
       clear hem h0
       go_wp2_with (fail)
       go_ret2
       exact⟨hb2,Or.inr ⟨v,_,O h1,rfl,hrep'⟩⟩
  ·have h1:=U (sC (d:=depth) (x:=ex) hn hs);clear hs hr0
   go_wp2_with (fail)
   go_ret2
   exact⟨hb2,Or.inl ⟨5,O h1,by omega,rfl⟩⟩
end Go.Proofs.YtdpomdelmdofmaaGreatDoor

namespace Go.Proofs.YtdpomdelmdofmaaGreatDoor.Sp
def iE(n:Nat):UInt8:=if n<10 then UInt8.ofNat (48+n) else UInt8.ofNat (87+n)
def da(c:UInt8):By:=if c.toNat=34\/c.toNat=92 then [92,c] else if c.toNat<32 then [92,117,48,48,iE (c.toNat / 16),iE (c.toNat % 16)] else [c]
def bg:By->By
 | []=>[]
 | c::r=>da c++bg r
def ah(s:By):By:=34::(bg s++[34])
def be(n:Nm):By:=if n.2.1=[] then [48] else (if n.1 then [45] else [])++(n.2.1++(if n.2.2=0 then [] else 101::Lib.itoa n.2.2))
def bG:List By->By
 | []=>[]
 | x::r=>44::(x++bG r)
def ai:List By->By
 | []=>[]
 | x::r=>x++bG r
def keys(es:List (Lit×V)):List By:=es.map fun p=>match p.1 with | .string b=>b|_=>[]
def look(es:List (Lit×V))(k:By):V:=DataW.atKey (.map es) (.string k) .nil
def can:Nat->V->By
 | 0,_=>[]
 | f+1,d=>match d with
  | .lit (.int _ k)=>words.getD k.toNat []
  | .lit (.string s)=>ah s
  | .agg [.lit (.bool ng),.lit (.string ds),.lit (.int _ ex)]=>be (ng,ds,ex)
  | .slice es _=>91::(ai (es.map (can f))++[93])
  | .map es=>123::(ai (((keys es).mergeSort fun x y=>decide (x<=y)).map fun k=>ah k++58::can f (look es k))++[125])
  | _=>[]
theorem km(f k:Nat):can (f+1) (cn k)=words.getD k []:=rfl
theorem lO(f:Nat)(n:Nm):can (f+1) (bw n)=be n:=rfl
theorem jN(f:Nat)(s:By):can (f+1) (aD s)=ah s:=rfl
theorem dG(f:Nat)(es:List V):can (f+1) (au es)=91::(ai (es.map (can f))++[93]):=rfl
theorem lN(f:Nat)(es:List (Lit×V)):can (f+1) (az es)=123::(ai (((keys es).mergeSort fun x y=>decide (x<=y)).map fun k=>ah k++58::can f (look es k))++[125]):=rfl
theorem vc(l:List By)(x:By):bG (l++[x])=bG l++44::x:=by
 induction l with
 | nil=>simp[bG]
 | cons y r ih=>simp[bG,ih]
theorem nB(l:List By)(i:Nat)(h:i<l.length):ai (l.take (i+1))=ai (l.take i)++((if 0<i then [44] else [])++l[i]):=by
 rw[List.take_succ_eq_append_getElem h];cases l with
 | nil=>simp at h
 | cons x r =>
  cases i with
  | zero=>simp[ai,bG]
  | succ i=>simp only[List.take_succ_cons,List.cons_append,ai,vc];simp
theorem eO(l:List By)(i:Nat):(ai (l.take i)).length<=(ai l).length:=by
 have h:∀ (r:List By) (i:Nat),(bG (r.take i)).length<=(bG r).length:=by
  intro r;induction r with
  | nil=>intro i;simp[bG]
  | cons x r ih =>
   intro i;cases i with
   | zero=>simp[bG]
   | succ i=>have:=ih i;simp[bG];omega
 cases l with
 | nil=>simp
 | cons x r =>
  cases i with
  | zero=>simp[ai]
  | succ i=>have:=h r i;simp[ai];omega
theorem xT(s:By)(i:Nat)(h:i<s.length):bg (s.take (i+1))=bg (s.take i)++da s[i]:=by
 have ha:∀ (a b:By),bg (a++b)=bg a++bg b:=by
  intro a b;induction a with
  | nil=>rfl
  | cons c r ih=>simp[bg,ih]
 rw[List.take_succ_eq_append_getElem h,ha];simp[bg]
theorem rN(c:UInt8):(da c).length<=6:=by
 unfold da;split
 ·simp
 ·split
  ·simp
  ·simp
theorem mF(s:By):(bg s).length<=6*s.length:=by
 induction s with
 | nil=>simp[bg]
 | cons c r ih=>have:=rN c;simp[bg];omega
end Go.Proofs.YtdpomdelmdofmaaGreatDoor.Sp
