import Derived.Test.YtdpomdelmdofmaaGreatDoorUnd08
import Derived.Sort.KeysCollected
set_option maxHeartbeats 4000000
namespace Go.Proofs.YtdpomdelmdofmaaGreatDoor
open Go.Proofs.Tryz
open Go.RowKit
theorem Xw{w:World}{R:Nat}{t:ByteArray}{l:Sp.By}{tw:Bool}{dp fr:Int}(h:RD w R t l tw dp fr)(k1:Sp.tk l 45=true)(hd:Sp.dg l.tail=[]) :
  Calls Tryz.prog 184 #[.pointer (some ⟨R,0,none⟩)] w fun e w'=>Ad R w w'/\B5 (Sp.num l) e w' R t tw dp fr:=by
 have hE:Hid (Sp.num l=none):=by
  unfold Hid Sp.num Sp.BH;simp[k1,hd]
 have K1:=Ab k1;have HD:=Ab hd;have hRw:=h.lt;have h2000:l.length<=2000:=by obtain⟨p,ha,_⟩:=h;have:=ha.len;have:=ha.small;omega
 clear k1 hd
 go_enter func184,ntmps184
 go_wp2_with (fail);refine (Am 45 _ rfl (h.alloc _) (Aa K1)).mono ?_
 rintro e w1 ⟨rfl,hr1,hk1⟩
 go_wp2_with (fail);refine (AC hr1).mono ?_
 rintro e w2 ⟨rfl,hr2,hk2⟩;rw[Aa HD];have hs2:=((BA.new w).kept hk1 (by omega)).kept hk2 (by omega);have hkk2:=(((Ad.refl R w).alloc _).trans hk1).trans hk2;have s0:=hs2.c0;have s1:=hs2.c1;have s2:=hs2.c2;have z0:=hs2.fz 0;have z1:=hs2.fz 1;have z2:=hs2.fz 2
 go_wp2_with (fail);refine bodyPost_ret (v:=.tuple #[AD (false,[],0),.bool false]) (by simp[results,results184,go_sem,AD,s0,s1,s2]) rfl ⟨?_,Or.inr ⟨Aa hE,rfl,Sp.dgR l.tail,?_⟩⟩
 ·exact (((hkk2.setCell_new (by simp) _).setCell_new (by simp) _).setCell_new (by simp) _)
 ·exact (hr2.kept (((Ad.refl w.heap.size w2).setCell (p:=⟨w.heap.size,0,none⟩) rfl _ |>.setCell (p:=⟨w.heap.size,1,none⟩) rfl _).setCell (p:=⟨w.heap.size,2,none⟩) rfl _) (by omega))
theorem Xv{w:World}{R:Nat}{t:ByteArray}{l:Sp.By}{tw:Bool}{dp fr:Int}(h:RD w R t l tw dp fr)(k1:Sp.tk l 45=true)(d:UInt8)(ds:Sp.By)(hd:Sp.dg l.tail=d::ds)(hz:d=48)(hds:1<ds.length+1) :
  Calls Tryz.prog 184 #[.pointer (some ⟨R,0,none⟩)] w fun e w'=>Ad R w w'/\B5 (Sp.num l) e w' R t tw dp fr:=by
 have hE:Hid (Sp.num l=none):=by
  unfold Hid Sp.num Sp.BH;have h1:Sp.tk l.tail 48=true:=by rw[Ea hd,hz];rfl
  have h4:0<ds.length:=by omega
  simp[k1,hd,h1,h4]
 have K1:=Ab k1;have HD:=Ab hd;have h0:=B9 d ds (Ax d ds);have g48:((((⟨(d::ds).toArray⟩:ByteArray)[0]'(Ax d ds)).toNat:Int) == 48)=true:=by rw[h0,hz];rfl
 have gl:decide ((1:Int)<(ds.length:Int)+1)=true:=by simp;omega
 have hRw:=h.lt;have h2000:l.length<=2000:=by obtain⟨p,ha,_⟩:=h;have:=ha.len;have:=ha.small;omega
 clear k1 hd hds h0 hz
 go_enter func184,ntmps184
 go_wp2_with (fail);refine (Am 45 _ rfl (h.alloc _) (Aa K1)).mono ?_
 rintro e w1 ⟨rfl,hr1,hk1⟩
 go_wp2_with (fail);refine (AC hr1).mono ?_
 rintro e w2 ⟨rfl,hr2,hk2⟩;rw[Aa HD];have hs2:=((BA.new w).kept hk1 (by omega)).kept hk2 (by omega);have hkk2:=(((Ad.refl R w).alloc _).trans hk1).trans hk2;have s0:=hs2.c0;have s1:=hs2.c1;have s2:=hs2.c2;have z0:=hs2.fz 0;have z1:=hs2.fz 1;have z2:=hs2.fz 2
 go_wp2_with (fail);refine bodyPost_ret (v:=.tuple #[AD (false,[],0),.bool false]) (by simp[results,results184,go_sem,AD,s0,s1,s2]) rfl ⟨?_,Or.inr ⟨Aa hE,rfl,Sp.dgR l.tail,?_⟩⟩
 ·exact (((hkk2.setCell_new (by simp) _).setCell_new (by simp) _).setCell_new (by simp) _)
 ·exact (hr2.kept (((Ad.refl w.heap.size w2).setCell (p:=⟨w.heap.size,0,none⟩) rfl _ |>.setCell (p:=⟨w.heap.size,1,none⟩) rfl _).setCell (p:=⟨w.heap.size,2,none⟩) rfl _) (by omega))
theorem Wf{w:World}{R:Nat}{t:ByteArray}{l:Sp.By}{tw:Bool}{dp fr:Int}(h:RD w R t l tw dp fr)(k1:Sp.tk l 45=true)(d:UInt8)(ds:Sp.By)(hd:Sp.dg l.tail=d::ds)(hz:¬ d=48)(hf:Sp.BJ (Sp.dgR l.tail)=none) :
  Calls Tryz.prog 184 #[.pointer (some ⟨R,0,none⟩)] w fun e w'=>Ad R w w'/\B5 (Sp.num l) e w' R t tw dp fr:=by
 have hE:Hid (Sp.num l=none):=by
  unfold Hid Sp.num Sp.BH;have h1:Sp.tk l.tail 48=false:=by rw[Ea hd];simpa using hz
  simp[k1,hd,hf,h1]
 have K1:=Ab k1;have HD:=Ab hd;have h0:=B9 d ds (Ax d ds);have g48:((((⟨(d::ds).toArray⟩:ByteArray)[0]'(Ax d ds)).toNat:Int) == 48)=false:=by
  rw[h0];simp;intro h;exact hz (UInt8.toNat_inj.1 (by simpa using (show d.toNat=48 by omega)))
 have HF:=Ab hf;have hRw:=h.lt;have h2000:l.length<=2000:=by obtain⟨p,ha,_⟩:=h;have:=ha.len;have:=ha.small;omega
 clear k1 hd h0 hz hf
 go_enter func184,ntmps184
 go_wp2_with (fail);refine (Am 45 _ rfl (h.alloc _) (Aa K1)).mono ?_
 rintro e w1 ⟨rfl,hr1,hk1⟩
 go_wp2_with (fail);refine (AC hr1).mono ?_
 rintro e w2 ⟨rfl,hr2,hk2⟩;rw[Aa HD];have hs2:=((BA.new w).kept hk1 (by omega)).kept hk2 (by omega);have hkk2:=(((Ad.refl R w).alloc _).trans hk1).trans hk2
 go_wp2_with (fail);refine (Bd hr2).mono ?_
 rintro e w3 ⟨hk3,hc⟩;have hs3:=hs2.kept hk3 (by omega);have hkk3:=hkk2.trans hk3;rcases hc with⟨s,l',e1,rfl,hr3⟩|⟨e1,s,l',rfl,hr3⟩
 ·rw[Aa HF] at e1;cases e1
 clear e1;have s0:=hs3.c0;have s1:=hs3.c1;have s2:=hs3.c2;have z0:=hs3.fz 0;have z1:=hs3.fz 1;have z2:=hs3.fz 2
 go_wp2_with (fail);refine bodyPost_ret (v:=.tuple #[AD (false,[],0),.bool false]) (by simp[results,results184,go_sem,AD,s0,s1,s2]) rfl ⟨?_,Or.inr ⟨Aa hE,rfl,l',?_⟩⟩
 ·exact (((hkk3.setCell_new (by simp) _).setCell_new (by simp) _).setCell_new (by simp) _)
 ·exact (hr3.kept (((Ad.refl w.heap.size w3).setCell (p:=⟨w.heap.size,0,none⟩) rfl _ |>.setCell (p:=⟨w.heap.size,1,none⟩) rfl _).setCell (p:=⟨w.heap.size,2,none⟩) rfl _) (by omega))
theorem We{w:World}{R:Nat}{t:ByteArray}{l:Sp.By}{tw:Bool}{dp fr:Int}(h:RD w R t l tw dp fr)(k1:Sp.tk l 45=true)(d:UInt8)(ds:Sp.By)(hd:Sp.dg l.tail=d::ds)(hz:d=48)(hds:ds=[])(hf:Sp.BJ (Sp.dgR l.tail)=none) :
  Calls Tryz.prog 184 #[.pointer (some ⟨R,0,none⟩)] w fun e w'=>Ad R w w'/\B5 (Sp.num l) e w' R t tw dp fr:=by
 have hE:Hid (Sp.num l=none):=by
  unfold Hid Sp.num Sp.BH;subst hds;simp[k1,hd,hf]
 have K1:=Ab k1;have HD:=Ab hd;have h0:=B9 d ds (Ax d ds);have g48:((((⟨(d::ds).toArray⟩:ByteArray)[0]'(Ax d ds)).toNat:Int) == 48)=true:=by rw[h0,hz];rfl
 have gl:decide ((1:Int)<(ds.length:Int)+1)=false:=by subst hds;rfl
 have HF:=Ab hf;have hRw:=h.lt;have h2000:l.length<=2000:=by obtain⟨p,ha,_⟩:=h;have:=ha.len;have:=ha.small;omega
 clear k1 hd hds h0 hz hf
 go_enter func184,ntmps184
 go_wp2_with (fail);refine (Am 45 _ rfl (h.alloc _) (Aa K1)).mono ?_
 rintro e w1 ⟨rfl,hr1,hk1⟩
 go_wp2_with (fail);refine (AC hr1).mono ?_
 rintro e w2 ⟨rfl,hr2,hk2⟩;rw[Aa HD];have hs2:=((BA.new w).kept hk1 (by omega)).kept hk2 (by omega);have hkk2:=(((Ad.refl R w).alloc _).trans hk1).trans hk2
 go_wp2_with (fail);refine (Bd hr2).mono ?_
 rintro e w3 ⟨hk3,hc⟩;have hs3:=hs2.kept hk3 (by omega);have hkk3:=hkk2.trans hk3;rcases hc with⟨s,l',e1,rfl,hr3⟩|⟨e1,s,l',rfl,hr3⟩
 ·rw[Aa HF] at e1;cases e1
 clear e1;have s0:=hs3.c0;have s1:=hs3.c1;have s2:=hs3.c2;have z0:=hs3.fz 0;have z1:=hs3.fz 1;have z2:=hs3.fz 2
 go_wp2_with (fail);refine bodyPost_ret (v:=.tuple #[AD (false,[],0),.bool false]) (by simp[results,results184,go_sem,AD,s0,s1,s2]) rfl ⟨?_,Or.inr ⟨Aa hE,rfl,l',?_⟩⟩
 ·exact (((hkk3.setCell_new (by simp) _).setCell_new (by simp) _).setCell_new (by simp) _)
 ·exact (hr3.kept (((Ad.refl w.heap.size w3).setCell (p:=⟨w.heap.size,0,none⟩) rfl _ |>.setCell (p:=⟨w.heap.size,1,none⟩) rfl _).setCell (p:=⟨w.heap.size,2,none⟩) rfl _) (by omega))
theorem Wd{w:World}{R:Nat}{t:ByteArray}{l:Sp.By}{tw:Bool}{dp fr:Int}(h:RD w R t l tw dp fr)(k1:Sp.tk l 45=true)(d:UInt8)(ds:Sp.By)(hd:Sp.dg l.tail=d::ds)(hz:¬ d=48)(f l2:Sp.By)(hf:Sp.BJ (Sp.dgR l.tail)=some (f,l2))(he:Sp.AR l2=none) :
  Calls Tryz.prog 184 #[.pointer (some ⟨R,0,none⟩)] w fun e w'=>Ad R w w'/\B5 (Sp.num l) e w' R t tw dp fr:=by
 have hE:Hid (Sp.num l=none):=by
  unfold Hid Sp.num Sp.BH;have h1:Sp.tk l.tail 48=false:=by rw[Ea hd];simpa using hz
  simp[k1,hd,hf,he,h1]
 have K1:=Ab k1;have HD:=Ab hd;have h0:=B9 d ds (Ax d ds);have g48:((((⟨(d::ds).toArray⟩:ByteArray)[0]'(Ax d ds)).toNat:Int) == 48)=false:=by
  rw[h0];simp;intro h;exact hz (UInt8.toNat_inj.1 (by simpa using (show d.toNat=48 by omega)))
 have HF:=Ab hf;have HX:=Ab he;have hRw:=h.lt;have h2000:l.length<=2000:=by obtain⟨p,ha,_⟩:=h;have:=ha.len;have:=ha.small;omega
 clear k1 hd h0 hz hf he
 go_enter func184,ntmps184
 go_wp2_with (fail);refine (Am 45 _ rfl (h.alloc _) (Aa K1)).mono ?_
 rintro e w1 ⟨rfl,hr1,hk1⟩
 go_wp2_with (fail);refine (AC hr1).mono ?_
 rintro e w2 ⟨rfl,hr2,hk2⟩;rw[Aa HD];have hs2:=((BA.new w).kept hk1 (by omega)).kept hk2 (by omega);have hkk2:=(((Ad.refl R w).alloc _).trans hk1).trans hk2
 go_wp2_with (fail);refine (Bd hr2).mono ?_
 rintro e w3 ⟨hk3,hc⟩;have hs3:=hs2.kept hk3 (by omega);have hkk3:=hkk2.trans hk3;rcases hc with⟨s,l',e1,rfl,hr3⟩|⟨e1,_⟩
 rotate_left
 ·rw[Aa HF] at e1;cases e1
 rw[Aa HF] at e1;injection e1 with e1;injection e1 with e1 e2;subst e1 e2
 go_wp2_with (fail);refine (B6 hr3).mono ?_
 rintro e w4 ⟨hk4,hc⟩;have hs4:=hs3.kept hk4 (by omega);have hkk4:=hkk3.trans hk4;rcases hc with⟨x',l',e1,rfl,hr4⟩|⟨e1,x',l',rfl,hr4⟩
 ·rw[Aa HX] at e1;cases e1
 clear e1;have s0:=hs4.c0;have s1:=hs4.c1;have s2:=hs4.c2;have z0:=hs4.fz 0;have z1:=hs4.fz 1;have z2:=hs4.fz 2
 go_wp2_with (fail);refine bodyPost_ret (v:=.tuple #[AD (false,[],0),.bool false]) (by simp[results,results184,go_sem,AD,s0,s1,s2]) rfl ⟨?_,Or.inr ⟨Aa hE,rfl,l',?_⟩⟩
 ·exact (((hkk4.setCell_new (by simp) _).setCell_new (by simp) _).setCell_new (by simp) _)
 ·exact (hr4.kept (((Ad.refl w.heap.size w4).setCell (p:=⟨w.heap.size,0,none⟩) rfl _ |>.setCell (p:=⟨w.heap.size,1,none⟩) rfl _).setCell (p:=⟨w.heap.size,2,none⟩) rfl _) (by omega))
theorem Wc{w:World}{R:Nat}{t:ByteArray}{l:Sp.By}{tw:Bool}{dp fr:Int}(h:RD w R t l tw dp fr)(k1:Sp.tk l 45=true)(d:UInt8)(ds:Sp.By)(hd:Sp.dg l.tail=d::ds)(hz:d=48)(hds:ds=[])(f l2:Sp.By)(hf:Sp.BJ (Sp.dgR l.tail)=some (f,l2))(he:Sp.AR l2=none) :
  Calls Tryz.prog 184 #[.pointer (some ⟨R,0,none⟩)] w fun e w'=>Ad R w w'/\B5 (Sp.num l) e w' R t tw dp fr:=by
 have hE:Hid (Sp.num l=none):=by
  unfold Hid Sp.num Sp.BH;subst hds;simp[k1,hd,hf,he]
 have K1:=Ab k1;have HD:=Ab hd;have h0:=B9 d ds (Ax d ds);have g48:((((⟨(d::ds).toArray⟩:ByteArray)[0]'(Ax d ds)).toNat:Int) == 48)=true:=by rw[h0,hz];rfl
 have gl:decide ((1:Int)<(ds.length:Int)+1)=false:=by subst hds;rfl
 have HF:=Ab hf;have HX:=Ab he;have hRw:=h.lt;have h2000:l.length<=2000:=by obtain⟨p,ha,_⟩:=h;have:=ha.len;have:=ha.small;omega
 clear k1 hd hds h0 hz hf he
 go_enter func184,ntmps184
 go_wp2_with (fail);refine (Am 45 _ rfl (h.alloc _) (Aa K1)).mono ?_
 rintro e w1 ⟨rfl,hr1,hk1⟩
 go_wp2_with (fail);refine (AC hr1).mono ?_
 rintro e w2 ⟨rfl,hr2,hk2⟩;rw[Aa HD];have hs2:=((BA.new w).kept hk1 (by omega)).kept hk2 (by omega);have hkk2:=(((Ad.refl R w).alloc _).trans hk1).trans hk2
 go_wp2_with (fail);refine (Bd hr2).mono ?_
 rintro e w3 ⟨hk3,hc⟩;have hs3:=hs2.kept hk3 (by omega);have hkk3:=hkk2.trans hk3;rcases hc with⟨s,l',e1,rfl,hr3⟩|⟨e1,_⟩
 rotate_left
 ·rw[Aa HF] at e1;cases e1
 rw[Aa HF] at e1;injection e1 with e1;injection e1 with e1 e2;subst e1 e2
 go_wp2_with (fail);refine (B6 hr3).mono ?_
 rintro e w4 ⟨hk4,hc⟩;have hs4:=hs3.kept hk4 (by omega);have hkk4:=hkk3.trans hk4;rcases hc with⟨x',l',e1,rfl,hr4⟩|⟨e1,x',l',rfl,hr4⟩
 ·rw[Aa HX] at e1;cases e1
 clear e1;have s0:=hs4.c0;have s1:=hs4.c1;have s2:=hs4.c2;have z0:=hs4.fz 0;have z1:=hs4.fz 1;have z2:=hs4.fz 2
 go_wp2_with (fail);refine bodyPost_ret (v:=.tuple #[AD (false,[],0),.bool false]) (by simp[results,results184,go_sem,AD,s0,s1,s2]) rfl ⟨?_,Or.inr ⟨Aa hE,rfl,l',?_⟩⟩
 ·exact (((hkk4.setCell_new (by simp) _).setCell_new (by simp) _).setCell_new (by simp) _)
 ·exact (hr4.kept (((Ad.refl w.heap.size w4).setCell (p:=⟨w.heap.size,0,none⟩) rfl _ |>.setCell (p:=⟨w.heap.size,1,none⟩) rfl _).setCell (p:=⟨w.heap.size,2,none⟩) rfl _) (by omega))
end Go.Proofs.YtdpomdelmdofmaaGreatDoor

set_option maxHeartbeats 4000000
namespace Go.Proofs.YtdpomdelmdofmaaGreatDoor
open Go.Proofs.Tryz
open Go.RowKit
theorem Wb{w:World}{R:Nat}{t:ByteArray}{l:Sp.By}{tw:Bool}{dp fr:Int}(h:RD w R t l tw dp fr)(k1:Sp.tk l 45=true)(d:UInt8)(ds:Sp.By)(hd:Sp.dg l.tail=d::ds)(hz:¬ d=48)(f l2:Sp.By)(hf:Sp.BJ (Sp.dgR l.tail)=some (f,l2))(x:Int)(l3:Sp.By)(he:Sp.AR l2=some (x,l3)) :
  Calls Tryz.prog 184 #[.pointer (some ⟨R,0,none⟩)] w fun e w'=>Ad R w w'/\B5 (Sp.num l) e w' R t tw dp fr:=by
 have hE:Hid (Sp.num l=some (Sp.Co true (d::ds++f) (x-f.length),l3)):=by
  unfold Hid Sp.num Sp.BH;have h1:Sp.tk l.tail 48=false:=by rw[Ea hd];simpa using hz
  simp[k1,hd,hf,he,h1]
 have K1:=Ab k1;have HD:=Ab hd;have h0:=B9 d ds (Ax d ds);have g48:((((⟨(d::ds).toArray⟩:ByteArray)[0]'(Ax d ds)).toNat:Int) == 48)=false:=by
  rw[h0];simp;intro h;exact hz (UInt8.toNat_inj.1 (by simpa using (show d.toNat=48 by omega)))
 have HF:=Ab hf;have HX:=Ab he;have hRw:=h.lt;have h2000:l.length<=2000:=by obtain⟨p,ha,_⟩:=h;have:=ha.len;have:=ha.small;omega
 clear k1 hd h0 hz hf he
 go_enter func184,ntmps184
 go_wp2_with (fail);refine (Am 45 _ rfl (h.alloc _) (Aa K1)).mono ?_
 rintro e w1 ⟨rfl,hr1,hk1⟩
 go_wp2_with (fail);refine (AC hr1).mono ?_
 rintro e w2 ⟨rfl,hr2,hk2⟩;rw[Aa HD];have hs2:=((BA.new w).kept hk1 (by omega)).kept hk2 (by omega);have hkk2:=(((Ad.refl R w).alloc _).trans hk1).trans hk2
 go_wp2_with (fail);refine (Bd hr2).mono ?_
 rintro e w3 ⟨hk3,hc⟩;have hs3:=hs2.kept hk3 (by omega);have hkk3:=hkk2.trans hk3;rcases hc with⟨s,l',e1,rfl,hr3⟩|⟨e1,_⟩
 rotate_left
 ·rw[Aa HF] at e1;cases e1
 rw[Aa HF] at e1;injection e1 with e1;injection e1 with e1 e2;subst e1 e2
 go_wp2_with (fail);refine (B6 hr3).mono ?_
 rintro e w4 ⟨hk4,hc⟩;have hs4:=hs3.kept hk4 (by omega);have hkk4:=hkk3.trans hk4;rcases hc with⟨x',l',e1,rfl,hr4⟩|⟨e1,_⟩
 rotate_left
 ·rw[Aa HX] at e1;cases e1
 rw[Aa HX] at e1;injection e1 with e1;injection e1 with e1 e2;subst e1 e2;have hx1:=Gl (Aa HX);have hfl:f.length<=2000:=by
  have:=Dk (Aa HF);have:=BM l.tail;have:=List.length_tail (l:=l);omega
 have hdl:ds.length+1<=2000:=by
  have e1:=BM l.tail;rw[Aa HD] at e1;have e2:=List.length_tail (l:=l);rw[List.length_cons] at e1;omega
 have hcat:¬ 9223372036854775807<ds.length+1+f.length:=by omega
 go_wp2_with (fail);have hap:(⟨(d::ds).toArray⟩:ByteArray)++⟨f.toArray⟩=⟨(d::ds++f).toArray⟩:=by
  apply ByteArray.ext;simp
 rw[hap];refine (DG true (d::ds++f) (x-f.length) w4 (by omega) (by omega) (by simp;omega)).mono ?_;rintro e w5 ⟨rfl,hb5⟩;have hk5:=Ad.of_below (X:=R) hb5;have hs5:=hs4.kept hk5 (by omega);have hkk5:=hkk4.trans hk5;obtain⟨q,ha,hq⟩:=hr4.kept (Ad.of_below (X:=R+1) hb5) (by omega);generalize hn:Sp.Co true (d::ds++f) (x-f.length)=n at *;obtain⟨nb,nd,ne⟩:=n;have hne:-10000000<=ne/\ne<=10000000:=by
  have hm:=Gd true (d::ds++f) (x-f.length);rw[hn] at hm;have e:(d::ds++f).length=ds.length+1+f.length:=by simp;omega
  rw[e] at hm;simp only at hm;omega
 have c4:∀o,(w5.alloc o).cell? ⟨R,4,none⟩=some (.int .i64 fr):=fun o=>(hq.alloc o).c4;have f4:∀o,(w5.alloc o).frozen? ⟨R,4,none⟩=false:=fun o=>(hq.alloc o).fz 4;have hs6:∀o,BA (w5.alloc o) w.heap.size:=fun o=>hs5.kept ((Ad.refl R w5).alloc o) (by omega);have s0:=fun o=>(hs6 o).c0;have s1:=fun o=>(hs6 o).c1;have s2:=fun o=>(hs6 o).c2;have z0:=fun o=>(hs6 o).fz 0;have z1:=fun o=>(hs6 o).fz 1;have z2:=fun o=>(hs6 o).fz 2;have hz5:=hkk5.size;unfold AD
 go_wp2_with (fail)
 go_region
 go_wp2_with (fail);all_goals (
  refine bodyPost_ret (v:=.tuple #[AD (nb,nd,ne),.bool true]) (by simp[results,results184,go_sem,AD,s0,s1,s2]) rfl ⟨?_,Or.inl ⟨(nb,nd,ne),l3,Aa hE,rfl,⟨q,ha,Iq hq _ _ _ _ _ _ _ (by omega) (by simp only;omega)⟩⟩⟩;exact ((((((hkk5.alloc _).setCell (p:=⟨R,4,none⟩) rfl _).setCell_new (by simp) _).setCell_new (by simp) _).setCell_new (by simp) _).drew))
theorem V9{w:World}{R:Nat}{t:ByteArray}{l:Sp.By}{tw:Bool}{dp fr:Int}(h:RD w R t l tw dp fr)(k1:Sp.tk l 45=true)(d:UInt8)(ds:Sp.By)(hd:Sp.dg l.tail=d::ds)(hz:d=48)(hds:ds=[])(f l2:Sp.By)(hf:Sp.BJ (Sp.dgR l.tail)=some (f,l2))(x:Int)(l3:Sp.By)(he:Sp.AR l2=some (x,l3)) :
  Calls Tryz.prog 184 #[.pointer (some ⟨R,0,none⟩)] w fun e w'=>Ad R w w'/\B5 (Sp.num l) e w' R t tw dp fr:=by
 have hE:Hid (Sp.num l=some (Sp.Co true (d::ds++f) (x-f.length),l3)):=by
  unfold Hid Sp.num Sp.BH;subst hds;simp[k1,hd,hf,he]
 have K1:=Ab k1;have HD:=Ab hd;have h0:=B9 d ds (Ax d ds);have g48:((((⟨(d::ds).toArray⟩:ByteArray)[0]'(Ax d ds)).toNat:Int) == 48)=true:=by rw[h0,hz];rfl
 have gl:decide ((1:Int)<(ds.length:Int)+1)=false:=by subst hds;rfl
 have HF:=Ab hf;have HX:=Ab he;have hRw:=h.lt;have h2000:l.length<=2000:=by obtain⟨p,ha,_⟩:=h;have:=ha.len;have:=ha.small;omega
 clear k1 hd hds h0 hz hf he
 go_enter func184,ntmps184
 go_wp2_with (fail);refine (Am 45 _ rfl (h.alloc _) (Aa K1)).mono ?_
 rintro e w1 ⟨rfl,hr1,hk1⟩
 go_wp2_with (fail);refine (AC hr1).mono ?_
 rintro e w2 ⟨rfl,hr2,hk2⟩;rw[Aa HD];have hs2:=((BA.new w).kept hk1 (by omega)).kept hk2 (by omega);have hkk2:=(((Ad.refl R w).alloc _).trans hk1).trans hk2
 go_wp2_with (fail);refine (Bd hr2).mono ?_
 rintro e w3 ⟨hk3,hc⟩;have hs3:=hs2.kept hk3 (by omega);have hkk3:=hkk2.trans hk3;rcases hc with⟨s,l',e1,rfl,hr3⟩|⟨e1,_⟩
 rotate_left
 ·rw[Aa HF] at e1;cases e1
 rw[Aa HF] at e1;injection e1 with e1;injection e1 with e1 e2;subst e1 e2
 go_wp2_with (fail);refine (B6 hr3).mono ?_
 rintro e w4 ⟨hk4,hc⟩;have hs4:=hs3.kept hk4 (by omega);have hkk4:=hkk3.trans hk4;rcases hc with⟨x',l',e1,rfl,hr4⟩|⟨e1,_⟩
 rotate_left
 ·rw[Aa HX] at e1;cases e1
 rw[Aa HX] at e1;injection e1 with e1;injection e1 with e1 e2;subst e1 e2;have hx1:=Gl (Aa HX);have hfl:f.length<=2000:=by
  have:=Dk (Aa HF);have:=BM l.tail;have:=List.length_tail (l:=l);omega
 have hdl:ds.length+1<=2000:=by
  have e1:=BM l.tail;rw[Aa HD] at e1;have e2:=List.length_tail (l:=l);rw[List.length_cons] at e1;omega
 have hcat:¬ 9223372036854775807<ds.length+1+f.length:=by omega
 go_wp2_with (fail);have hap:(⟨(d::ds).toArray⟩:ByteArray)++⟨f.toArray⟩=⟨(d::ds++f).toArray⟩:=by
  apply ByteArray.ext;simp
 rw[hap];refine (DG true (d::ds++f) (x-f.length) w4 (by omega) (by omega) (by simp;omega)).mono ?_;rintro e w5 ⟨rfl,hb5⟩;have hk5:=Ad.of_below (X:=R) hb5;have hs5:=hs4.kept hk5 (by omega);have hkk5:=hkk4.trans hk5;obtain⟨q,ha,hq⟩:=hr4.kept (Ad.of_below (X:=R+1) hb5) (by omega);generalize hn:Sp.Co true (d::ds++f) (x-f.length)=n at *;obtain⟨nb,nd,ne⟩:=n;have hne:-10000000<=ne/\ne<=10000000:=by
  have hm:=Gd true (d::ds++f) (x-f.length);rw[hn] at hm;have e:(d::ds++f).length=ds.length+1+f.length:=by simp;omega
  rw[e] at hm;simp only at hm;omega
 have c4:∀o,(w5.alloc o).cell? ⟨R,4,none⟩=some (.int .i64 fr):=fun o=>(hq.alloc o).c4;have f4:∀o,(w5.alloc o).frozen? ⟨R,4,none⟩=false:=fun o=>(hq.alloc o).fz 4;have hs6:∀o,BA (w5.alloc o) w.heap.size:=fun o=>hs5.kept ((Ad.refl R w5).alloc o) (by omega);have s0:=fun o=>(hs6 o).c0;have s1:=fun o=>(hs6 o).c1;have s2:=fun o=>(hs6 o).c2;have z0:=fun o=>(hs6 o).fz 0;have z1:=fun o=>(hs6 o).fz 1;have z2:=fun o=>(hs6 o).fz 2;have hz5:=hkk5.size;unfold AD
 go_wp2_with (fail)
 go_region
 go_wp2_with (fail);all_goals (
  refine bodyPost_ret (v:=.tuple #[AD (nb,nd,ne),.bool true]) (by simp[results,results184,go_sem,AD,s0,s1,s2]) rfl ⟨?_,Or.inl ⟨(nb,nd,ne),l3,Aa hE,rfl,⟨q,ha,Iq hq _ _ _ _ _ _ _ (by omega) (by simp only;omega)⟩⟩⟩;exact ((((((hkk5.alloc _).setCell (p:=⟨R,4,none⟩) rfl _).setCell_new (by simp) _).setCell_new (by simp) _).setCell_new (by simp) _).drew))
end Go.Proofs.YtdpomdelmdofmaaGreatDoor

namespace Go.Proofs.YtdpomdelmdofmaaGreatDoor
open Go.Proofs.Tryz
open Go.RowKit
theorem JX{w:World}{R:Nat}{t:ByteArray}{l:Sp.By}{tw:Bool}{dp fr:Int}(h:RD w R t l tw dp fr) :
  Calls Tryz.prog 184 #[.pointer (some ⟨R,0,none⟩)] w fun e w'=>Ad R w w'/\B5 (Sp.num l) e w' R t tw dp fr:=by
 by_cases k1:Sp.tk l 45=true
 ·cases hd:Sp.dg l.tail with
  | nil=>exact Xw h k1 hd
  | cons d ds =>
   by_cases hz:d=48
   ·by_cases hl:1<ds.length+1
    ·exact Xv h k1 d ds hd hz hl
    ·have hds:ds=[]:=List.eq_nil_of_length_eq_zero (by omega);cases hf:Sp.BJ (Sp.dgR l.tail) with
     | none=>exact We h k1 d ds hd hz hds hf
     | some y =>
      obtain⟨f,l2⟩:=y;cases he:Sp.AR l2 with
      | none=>exact Wc h k1 d ds hd hz hds f l2 hf he
      | some y =>
       obtain⟨x,l3⟩:=y;exact V9 h k1 d ds hd hz hds f l2 hf x l3 he
   ·cases hf:Sp.BJ (Sp.dgR l.tail) with
    | none=>exact Wf h k1 d ds hd hz hf
    | some y =>
     obtain⟨f,l2⟩:=y;cases he:Sp.AR l2 with
     | none=>exact Wd h k1 d ds hd hz f l2 hf he
     | some y =>
      obtain⟨x,l3⟩:=y;exact Wb h k1 d ds hd hz f l2 hf x l3 he
 ·cases hd:Sp.dg l with
  | nil=>exact Xu h (Ak k1) hd
  | cons d ds =>
   by_cases hz:d=48
   ·by_cases hl:1<ds.length+1
    ·exact Xt h (Ak k1) d ds hd hz hl
    ·have hds:ds=[]:=List.eq_nil_of_length_eq_zero (by omega);cases hf:Sp.BJ (Sp.dgR l) with
     | none=>exact V7 h (Ak k1) d ds hd hz hds hf
     | some y =>
      obtain⟨f,l2⟩:=y;cases he:Sp.AR l2 with
      | none=>exact V5 h (Ak k1) d ds hd hz hds f l2 hf he
      | some y =>
       obtain⟨x,l3⟩:=y;exact V3 h (Ak k1) d ds hd hz hds f l2 hf x l3 he
   ·cases hf:Sp.BJ (Sp.dgR l) with
    | none=>exact V8 h (Ak k1) d ds hd hz hf
    | some y =>
     obtain⟨f,l2⟩:=y;cases he:Sp.AR l2 with
     | none=>exact V6 h (Ak k1) d ds hd hz f l2 hf he
     | some y =>
      obtain⟨x,l3⟩:=y;exact V4 h (Ak k1) d ds hd hz f l2 hf x l3 he
end Go.Proofs.YtdpomdelmdofmaaGreatDoor

set_option maxHeartbeats 4000000
namespace Go.Proofs.YtdpomdelmdofmaaGreatDoor
open Go.Proofs.Tryz
open Go.RowKit
theorem Ho{l:Sp.By}{n:Sp.Nm}{r:Sp.By}(h:Sp.num l=some (n,r))(hl:l.length<=2000):-10000000<=n.2.2/\n.2.2<=10000000:=by
 have hb:∀ (b:Bool) (l:Sp.By),l.length<=2000->Sp.BH b l=some (n,r) -> -10000000<=n.2.2/\n.2.2<=10000000:=by
  intro b l hl h;unfold Sp.BH at h;have a:=BM l;split at h
  ·cases h
  ·split at h
   ·cases h
   ·rename_i f r1 h1;have a2:=Dk h1;split at h
    ·cases h
    ·rename_i e r2 h2;have a3:=Gl h2;have a4:=Gd b (Sp.dg l++f) (e-f.length);simp only[List.length_append] at a4;injection h with h;injection h with h3 h4;subst h3;omega
 unfold Sp.num at h;split at h
 ·exact hb _ _ (by have:=List.length_tail (l:=l);omega) h
 ·exact hb _ _ hl h
theorem Vo{f R:Nat}{t:ByteArray}{lv:Int}{l:Sp.By}{tw:Bool}{dp fr:Int}{w:World}(hV:EM f)(h:RD w R t l tw dp fr)(hT:Af w)(hR:NG<=R)(hl:l.length<=f)(hlv:0<=lv)(hb:lv+f<=4999)(hp:Sp.pk l=123) :
  Calls Tryz.prog 137 #[.pointer (some ⟨R,0,none⟩),.int .i64 lv] w fun e w'=>Ad R w w'/\Fi (f+1) lv l (tw,dp,fr) e w w' R t:=by
 obtain⟨q,ha,hq⟩:=h;have h2000:l.length<=2000:=by have:=ha.len;have:=ha.small;omega
 have c3:=hq.c3;have z3:=hq.fz 3;have hr0:RD (w.setCell ⟨R,3,none⟩ (.int .i64 (max dp lv))) R t l tw (max dp lv) fr:=⟨q,ha,hq.set3 (max dp lv)⟩
 have hk0:Ad R w (w.setCell ⟨R,3,none⟩ (.int .i64 (max dp lv))):=(Ad.refl R w).setCell rfl _;have hT0:=hT.kept hk0 hR;have hs0:(w.setCell ⟨R,3,none⟩ (.int .i64 (max dp lv))).heap.size=w.heap.size:=by simp[World.setCell]
 have e123:((Sp.pk l:Int) == 123)=true:=by simp;omega
 have HV:Hid (Sp.val (f+1) lv l (tw,dp,fr)=(match Sp.Bh 123 125 (Sp.CJ (Sp.val f (lv+1))) l (Sp.Av [],(tw,(max dp lv,fr))) with
   | none=>none
   | some (r,(v,fl'))=>some (v,r,fl'))):=by
  unfold Hid;rw[Sp.val,if_pos hp];rfl
 clear hq ha hT
 go_enter func137,ntmps137
 go_wp2_with (fail);refine (EJ hr0).mono ?_
 rintro e w1 ⟨rfl,hr1,hk1⟩;have hk01:=hk0.trans hk1;have hT1:=hT0.kept hk1 hR;have hs1:=hk01.size
 go_wp2_with (fail);refine (PN hV hr1 hT1 hR hl hlv hb).mono ?_
 rintro e w2 ⟨hk2,hc⟩;rcases hc with⟨v,r,fl',p,hs,rfl,hr2,hrep⟩|⟨hs,p,rfl,hr2⟩
 ·have HS:=Ab hs;clear hs
  go_wp2_with (fail)
  go_ret2
  refine⟨hk01.trans hk2,Or.inl ⟨v,r,fl',p,?_,rfl,hr2,hrep.move (by omega) fun k h1 _=>rfl⟩⟩;rw[Aa HV,Aa HS]
 ·have HS:=Ab hs;clear hs
  go_wp2_with (fail)
  go_ret2
  refine⟨hk01.trans hk2,Or.inr ⟨?_,p,rfl,hr2⟩⟩;rw[Aa HV,Aa HS]
theorem Vs{f R:Nat}{t:ByteArray}{lv:Int}{l:Sp.By}{tw:Bool}{dp fr:Int}{w:World}(hV:EM f)(h:RD w R t l tw dp fr)(hT:Af w)(hR:NG<=R)(hl:l.length<=f)(hlv:0<=lv)(hb:lv+f<=4999)(hp:Sp.pk l=91) :
  Calls Tryz.prog 137 #[.pointer (some ⟨R,0,none⟩),.int .i64 lv] w fun e w'=>Ad R w w'/\Fi (f+1) lv l (tw,dp,fr) e w w' R t:=by
 obtain⟨q,ha,hq⟩:=h;have h2000:l.length<=2000:=by have:=ha.len;have:=ha.small;omega
 have c3:=hq.c3;have z3:=hq.fz 3;have hr0:RD (w.setCell ⟨R,3,none⟩ (.int .i64 (max dp lv))) R t l tw (max dp lv) fr:=⟨q,ha,hq.set3 (max dp lv)⟩
 have hk0:Ad R w (w.setCell ⟨R,3,none⟩ (.int .i64 (max dp lv))):=(Ad.refl R w).setCell rfl _;have hT0:=hT.kept hk0 hR;have hs0:(w.setCell ⟨R,3,none⟩ (.int .i64 (max dp lv))).heap.size=w.heap.size:=by simp[World.setCell]
 have e123:((Sp.pk l:Int) == 123)=false:=by simp;omega
 have e91:((Sp.pk l:Int) == 91)=true:=by simp;omega
 have HV:Hid (Sp.val (f+1) lv l (tw,dp,fr)=(match Sp.Bh 91 93 (Sp.C7 (Sp.val f (lv+1))) l ([],(tw,(max dp lv,fr))) with
   | none=>none
   | some (r,(es,fl'))=>some (Sp.Ar es,r,fl'))):=by
  unfold Hid;rw[Sp.val,if_neg (by omega),if_pos hp];rfl
 clear hq ha hT
 go_enter func137,ntmps137
 go_wp2_with (fail);refine (EJ hr0).mono ?_
 rintro e w1 ⟨rfl,hr1,hk1⟩;have hk01:=hk0.trans hk1;have hT1:=hT0.kept hk1 hR;have hs1:=hk01.size
 go_wp2_with (fail);refine (ST hV hr1 hT1 hR hl hlv hb).mono ?_
 rintro e w2 ⟨hk2,hc⟩;rcases hc with⟨es,r,fl',p,hs,rfl,hr2,hrep⟩|⟨hs,p,rfl,hr2⟩
 ·have HS:=Ab hs;clear hs
  go_wp2_with (fail)
  go_ret2
  refine⟨hk01.trans hk2,Or.inl ⟨Sp.Ar es,r,fl',p,?_,rfl,hr2,hrep.move (by omega) fun k h1 _=>rfl⟩⟩;rw[Aa HV,Aa HS]
 ·have HS:=Ab hs;clear hs
  go_wp2_with (fail)
  go_ret2
  refine⟨hk01.trans hk2,Or.inr ⟨?_,p,rfl,hr2⟩⟩;rw[Aa HV,Aa HS]
theorem Vn{f R:Nat}{t:ByteArray}{lv:Int}{l:Sp.By}{tw:Bool}{dp fr:Int}{w:World}(h:RD w R t l tw dp fr)(hT:Af w)(hR:NG<=R)(hp:Sp.pk l=34) :
  Calls Tryz.prog 137 #[.pointer (some ⟨R,0,none⟩),.int .i64 lv] w fun e w'=>Ad R w w'/\Fi (f+1) lv l (tw,dp,fr) e w w' R t:=by
 obtain⟨q,ha,hq⟩:=h;have h2000:l.length<=2000:=by have:=ha.len;have:=ha.small;omega
 have c3:=hq.c3;have z3:=hq.fz 3;have hr0:RD (w.setCell ⟨R,3,none⟩ (.int .i64 (max dp lv))) R t l tw (max dp lv) fr:=⟨q,ha,hq.set3 (max dp lv)⟩
 have hk0:Ad R w (w.setCell ⟨R,3,none⟩ (.int .i64 (max dp lv))):=(Ad.refl R w).setCell rfl _;have hT0:=hT.kept hk0 hR;have hs0:(w.setCell ⟨R,3,none⟩ (.int .i64 (max dp lv))).heap.size=w.heap.size:=by simp[World.setCell]
 have e123:((Sp.pk l:Int) == 123)=false:=by simp;omega
 have e91:((Sp.pk l:Int) == 91)=false:=by simp;omega
 have e34:((Sp.pk l:Int) == 34)=true:=by simp;omega
 have HV:Hid (Sp.val (f+1) lv l (tw,dp,fr)=(match Sp.quo l with
   | none=>none
   | some (s,r)=>some (Sp.Az s,r,(tw,(max dp lv,fr))))):=by
  unfold Hid;rw[Sp.val,if_neg (by omega),if_neg (by omega),if_pos hp];rfl
 clear hq ha hT
 go_enter func137,ntmps137
 go_wp2_with (fail);refine (EJ hr0).mono ?_
 rintro e w1 ⟨rfl,hr1,hk1⟩;have hk01:=hk0.trans hk1;have hT1:=hT0.kept hk1 hR;have hs1:=hk01.size
 go_wp2_with (fail);refine (JN hr1 hT1 hR).mono ?_
 rintro e w2 ⟨hk2,hc⟩;have hk02:=hk01.trans hk2;have hs2:=hk2.size;rcases hc with⟨s,r,hs,rfl,hr2⟩|⟨hs,s,r,rfl,hr2⟩
 ·have HS:=Ab hs;clear hs
  go_wp2_with (fail)
  go_ret2
  refine⟨hk02.alloc _,Or.inl ⟨Sp.Az s,r,(tw,(max dp lv,fr)),some ⟨w2.heap.size,0,none⟩,?_,rfl,hr2.alloc _,Tr.leafS (by omega) (EA _ _ _ rfl)⟩⟩;rw[Aa HV,Aa HS]
 ·have HS:=Ab hs;clear hs
  go_wp2_with (fail)
  go_ret2
  refine⟨hk02.alloc _,Or.inr ⟨?_,_,rfl,_,_,_,_,hr2.alloc _⟩⟩;rw[Aa HV,Aa HS]
theorem Vq{f R:Nat}{t:ByteArray}{lv:Int}{l:Sp.By}{tw:Bool}{dp fr:Int}{w:World}(h:RD w R t l tw dp fr)(hT:Af w)(hR:NG<=R)(hp:Sp.pk l=45) :
  Calls Tryz.prog 137 #[.pointer (some ⟨R,0,none⟩),.int .i64 lv] w fun e w'=>Ad R w w'/\Fi (f+1) lv l (tw,dp,fr) e w w' R t:=by
 obtain⟨q,ha,hq⟩:=h;have h2000:l.length<=2000:=by have:=ha.len;have:=ha.small;omega
 have c3:=hq.c3;have z3:=hq.fz 3;have hr0:RD (w.setCell ⟨R,3,none⟩ (.int .i64 (max dp lv))) R t l tw (max dp lv) fr:=⟨q,ha,hq.set3 (max dp lv)⟩
 have hk0:Ad R w (w.setCell ⟨R,3,none⟩ (.int .i64 (max dp lv))):=(Ad.refl R w).setCell rfl _;have hT0:=hT.kept hk0 hR;have hs0:(w.setCell ⟨R,3,none⟩ (.int .i64 (max dp lv))).heap.size=w.heap.size:=by simp[World.setCell]
 have e123:((Sp.pk l:Int) == 123)=false:=by simp;omega
 have e91:((Sp.pk l:Int) == 91)=false:=by simp;omega
 have e34:((Sp.pk l:Int) == 34)=false:=by simp;omega
 have e45:((Sp.pk l:Int) == 45)=true:=by simp;omega
 have HV:Hid (Sp.val (f+1) lv l (tw,dp,fr)=(match Sp.num l with
   | none=>none
   | some (n,r)=>some (Sp.Bj n,r,(tw,(max dp lv,max (max fr n.2.2) (-n.2.2)))))):=by
  unfold Hid;rw[Sp.val,if_neg (by omega),if_neg (by omega),if_neg (by omega),if_pos (by omega)];rfl
 clear hq ha hT
 go_enter func137,ntmps137
 go_wp2_with (fail);refine (EJ hr0).mono ?_
 rintro e w1 ⟨rfl,hr1,hk1⟩;have hk01:=hk0.trans hk1;have hT1:=hT0.kept hk1 hR;have hs1:=hk01.size
 go_wp2_with (fail);refine (JX hr1).mono ?_
 rintro e w2 ⟨hk2,hc⟩;have hk02:=hk01.trans hk2;have hs2:=hk2.size;rcases hc with⟨n,r,hs,rfl,hr2⟩|⟨hs,rfl,r,hr2⟩
 ·have HS:=Ab hs;obtain⟨nb,nd,ne⟩:=n;clear hs;unfold AD
  go_wp2_with (fail)
  go_ret2
  refine⟨(hk02.alloc _).alloc _,Or.inl ⟨Sp.Bj (nb,nd,ne),r,(tw,(max dp lv,max (max fr ne) (-ne))),some ⟨w2.heap.size+1,0,none⟩,?_,rfl,(hr2.alloc _).alloc _,Tr.leafN (by omega) (EA _ _ _ (by simp)) ⟨by have:=Ho (Aa HS) h2000;simp only at this |-; omega,by have:=Ho (Aa HS) h2000;simp only at this |-; omega⟩⟩⟩;rw[Aa HV,Aa HS]
 ·have HS:=Ab hs;clear hs;unfold AD
  go_wp2_with (fail)
  go_ret2
  refine⟨(hk02.alloc _).alloc _,Or.inr ⟨?_,_,rfl,_,_,_,_,(hr2.alloc _).alloc _⟩⟩;rw[Aa HV,Aa HS]
theorem Vp{f R:Nat}{t:ByteArray}{lv:Int}{l:Sp.By}{tw:Bool}{dp fr:Int}{w:World}(h:RD w R t l tw dp fr)(hT:Af w)(hR:NG<=R)(hp:48<=Sp.pk l/\Sp.pk l<=57) :
  Calls Tryz.prog 137 #[.pointer (some ⟨R,0,none⟩),.int .i64 lv] w fun e w'=>Ad R w w'/\Fi (f+1) lv l (tw,dp,fr) e w w' R t:=by
 obtain⟨q,ha,hq⟩:=h;have h2000:l.length<=2000:=by have:=ha.len;have:=ha.small;omega
 have c3:=hq.c3;have z3:=hq.fz 3;have hr0:RD (w.setCell ⟨R,3,none⟩ (.int .i64 (max dp lv))) R t l tw (max dp lv) fr:=⟨q,ha,hq.set3 (max dp lv)⟩
 have hk0:Ad R w (w.setCell ⟨R,3,none⟩ (.int .i64 (max dp lv))):=(Ad.refl R w).setCell rfl _;have hT0:=hT.kept hk0 hR;have hs0:(w.setCell ⟨R,3,none⟩ (.int .i64 (max dp lv))).heap.size=w.heap.size:=by simp[World.setCell]
 have e123:((Sp.pk l:Int) == 123)=false:=by simp;omega
 have e91:((Sp.pk l:Int) == 91)=false:=by simp;omega
 have e34:((Sp.pk l:Int) == 34)=false:=by simp;omega
 have e45:((Sp.pk l:Int) == 45)=false:=by simp;omega
 have HV:Hid (Sp.val (f+1) lv l (tw,dp,fr)=(match Sp.num l with
   | none=>none
   | some (n,r)=>some (Sp.Bj n,r,(tw,(max dp lv,max (max fr n.2.2) (-n.2.2)))))):=by
  unfold Hid;rw[Sp.val,if_neg (by omega),if_neg (by omega),if_neg (by omega),if_pos (by omega)];rfl
 clear hq ha hT
 go_enter func137,ntmps137
 go_wp2_with (fail);refine (EJ hr0).mono ?_
 rintro e w1 ⟨rfl,hr1,hk1⟩;have hk01:=hk0.trans hk1;have hT1:=hT0.kept hk1 hR;have hs1:=hk01.size;have HD:=Ab (show CB (Sp.pk l)=true by unfold CB;simp;omega)
 go_wp2_with (fail);refine (BN _ _ (JO l)).mono ?_
 rintro e w9 ⟨rfl,rfl⟩;rw[Aa HD]
 go_wp2_with (fail);refine (JX hr1).mono ?_
 rintro e w2 ⟨hk2,hc⟩;have hk02:=hk01.trans hk2;have hs2:=hk2.size;rcases hc with⟨n,r,hs,rfl,hr2⟩|⟨hs,rfl,r,hr2⟩
 ·have HS:=Ab hs;obtain⟨nb,nd,ne⟩:=n;clear hs;unfold AD
  go_wp2_with (fail)
  go_ret2
  refine⟨(hk02.alloc _).alloc _,Or.inl ⟨Sp.Bj (nb,nd,ne),r,(tw,(max dp lv,max (max fr ne) (-ne))),some ⟨w2.heap.size+1,0,none⟩,?_,rfl,(hr2.alloc _).alloc _,Tr.leafN (by omega) (EA _ _ _ (by simp)) ⟨by have:=Ho (Aa HS) h2000;simp only at this |-; omega,by have:=Ho (Aa HS) h2000;simp only at this |-; omega⟩⟩⟩;rw[Aa HV,Aa HS]
 ·have HS:=Ab hs;clear hs;unfold AD
  go_wp2_with (fail)
  go_ret2
  refine⟨(hk02.alloc _).alloc _,Or.inr ⟨?_,_,rfl,_,_,_,_,(hr2.alloc _).alloc _⟩⟩;rw[Aa HV,Aa HS]
theorem Vm{f R:Nat}{t:ByteArray}{lv:Int}{l:Sp.By}{tw:Bool}{dp fr:Int}{w:World}(h:RD w R t l tw dp fr)(hT:Af w)(hR:NG<=R)(h1:¬ Sp.pk l=123)(h2:¬ Sp.pk l=91)(h3:¬ Sp.pk l=34)(h4:¬ Sp.pk l=45)(h5:¬ (48<=Sp.pk l/\Sp.pk l<=57)) :
  Calls Tryz.prog 137 #[.pointer (some ⟨R,0,none⟩),.int .i64 lv] w fun e w'=>Ad R w w'/\Fi (f+1) lv l (tw,dp,fr) e w w' R t:=by
 obtain⟨q,ha,hq⟩:=h;have h2000:l.length<=2000:=by have:=ha.len;have:=ha.small;omega
 have c3:=hq.c3;have z3:=hq.fz 3;have hr0:RD (w.setCell ⟨R,3,none⟩ (.int .i64 (max dp lv))) R t l tw (max dp lv) fr:=⟨q,ha,hq.set3 (max dp lv)⟩
 have hk0:Ad R w (w.setCell ⟨R,3,none⟩ (.int .i64 (max dp lv))):=(Ad.refl R w).setCell rfl _;have hT0:=hT.kept hk0 hR;have hs0:(w.setCell ⟨R,3,none⟩ (.int .i64 (max dp lv))).heap.size=w.heap.size:=by simp[World.setCell]
 have e123:((Sp.pk l:Int) == 123)=false:=by simp;omega
 have e91:((Sp.pk l:Int) == 91)=false:=by simp;omega
 have e34:((Sp.pk l:Int) == 34)=false:=by simp;omega
 have e45:((Sp.pk l:Int) == 45)=false:=by simp;omega
 have HV:Hid (Sp.val (f+1) lv l (tw,dp,fr)=(match Sp.Cv l 0 Sp.words with
   | none=>none
   | some (k,r)=>some (Sp.BV k,r,(tw,(max dp lv,fr))))):=by
  unfold Hid;rw[Sp.val,if_neg (by omega),if_neg (by omega),if_neg (by omega),if_neg (by omega)];rfl
 clear hq ha hT
 go_enter func137,ntmps137
 go_wp2_with (fail);refine (EJ hr0).mono ?_
 rintro e w1 ⟨rfl,hr1,hk1⟩;have hk01:=hk0.trans hk1;have hT1:=hT0.kept hk1 hR;have hs1:=hk01.size;have HD:=Ab (show CB (Sp.pk l)=false by unfold CB;simp;omega)
 go_wp2_with (fail);refine (BN _ _ (JO l)).mono ?_
 rintro e w9 ⟨rfl,rfl⟩;rw[Aa HD]
 go_wp2_with (fail);refine (S5 hr1 hT1).mono ?_
 rintro e w2 ⟨hk2,hc⟩;have hk02:=hk01.trans hk2;rcases hc with⟨k,r,b,hs,rfl,hk3,hvb,hb2,hr2⟩|⟨hs,rfl,hr2⟩
 ·have HS:=Ab hs;clear hs
  go_wp2_with (fail)
  go_ret2
  refine⟨hk02,Or.inl ⟨Sp.BV k,r,(tw,(max dp lv,fr)),some ⟨b,0,none⟩,?_,rfl,hr2,Tr.leafW (by omega) hk3 hvb⟩⟩;rw[Aa HV,Aa HS]
 ·have HS:=Ab hs;clear hs
  go_wp2_with (fail)
  go_ret2
  refine⟨hk02,Or.inr ⟨?_,none,rfl,_,_,_,_,hr2⟩⟩;rw[Aa HV,Aa HS]
theorem WV(f:Nat):EM f:=by
 induction f with
 | zero=>intro R t lv l tw dp fr w _ _ _ hl;omega
 | succ f ih =>
  intro R t lv l tw dp fr w h hT hR hl hlv hb;have hl':l.length<=f:=by omega
  have hb':lv+f<=4999:=by omega
  by_cases h1:Sp.pk l=123
  ·exact Vo ih h hT hR hl' hlv hb' h1
  ·by_cases h2:Sp.pk l=91
   ·exact Vs ih h hT hR hl' hlv hb' h2
   ·by_cases h3:Sp.pk l=34
    ·exact Vn h hT hR h3
    ·by_cases h4:Sp.pk l=45
     ·exact Vq h hT hR h4
     ·by_cases h5:48<=Sp.pk l/\Sp.pk l<=57
      ·exact Vp h hT hR h5
      ·exact Vm h hT hR h1 h2 h3 h4 h5
end Go.Proofs.YtdpomdelmdofmaaGreatDoor

set_option maxHeartbeats 4000000
namespace Go.Proofs.YtdpomdelmdofmaaGreatDoor
open Go.Proofs.Tryz
open Go.RowKit
def top:Nat:=2001
theorem EO:top=2001:=rfl
def Sp.readTo(t:Sp.By)(depth ex:Int):Nat×Option Sp.V :=
 if 2000<t.length then (4,none) else
 match Sp.val top 1 (Sp.skB t) (false,(0,0)) with
 | none=>(5,none)
 | some (v,r,fl)=>if (Sp.skB r).isEmpty then (if fl.1 then (6,none) else if depth<fl.2.1 then (7,none) else if ex<fl.2.2 then (8,none) else (0,some v)) else (5,none)
theorem Tr.drewN{f lo:Nat}{w:World}{v:Value}{d:Sp.V}(h:Tr f lo w v d)(n:Nat):Tr f lo (w.drewN n) v d:=h.move (Nat.le_refl _) fun _ _ _=>rfl
def S6(l:Sp.By)(fl:Sp.Fl)(e:Ending)(w w':World)(R:Nat)(t:ByteArray):Prop :=
 (∃v r fl' p,Sp.val top 1 (Sp.skB l) fl=some (v,r,fl')/\e = .returned (.tuple #[.pointer p,.bool (Sp.skB r).isEmpty])/\RD w' R t (Sp.skB r) fl'.1 fl'.2.1 fl'.2.2/\Tr top w.heap.size w' (.pointer p) v) \/
  (Sp.val top 1 (Sp.skB l) fl=none /\ ∃p,e = .returned (.tuple #[.pointer p,.bool false]) /\ ∃r tw dp fr,RD w' R t r tw dp fr)
theorem QK{R:Nat}{t:ByteArray}{l:Sp.By}{tw:Bool}{dp fr:Int}{w:World}(h:RD w R t l tw dp fr)(hT:Af w)(hR:NG<=R) :
  Calls Tryz.prog 102 #[.pointer (some ⟨R,0,none⟩)] w fun e w'=>Ad R w w'/\S6 l (tw,(dp,fr)) e w w' R t:=by
 have hRl:=h.lt;have h2000:l.length<=2000:=by obtain⟨p,ha,_⟩:=h;have:=ha.len;have:=ha.small;omega
 have hsk:=Sp.AX l;have htop:=EO
 go_enter func102,ntmps102
 go_wp2_with (fail);refine (B4 h).mono ?_
 rintro e w1 ⟨rfl,hr1,hk1⟩
 go_wp2_with (fail);refine (WV top R t 1 _ _ _ _ w1 hr1 (hT.kept hk1 hR) hR (by omega) (by omega) (by omega)).mono ?_
 rintro e w2 ⟨hk2,hc⟩;have hk02:=hk1.trans hk2;have hs1:=hk1.size;rcases hc with⟨v,r,fl',p,hs,rfl,hr2,hrep⟩|⟨hs,p,rfl,hr2⟩
 ·have HS:=Ab hs;clear hs hT
  go_wp2_with (fail);refine (B4 hr2).mono ?_
  rintro e w3 ⟨rfl,hr3,hk3⟩;have hrep3:Tr top w.heap.size w3 (.pointer p) v:=hrep.move (by omega) fun k h1 h2=>hk3.block k h2 (by omega);obtain⟨q,ha,hq⟩:=hr3;have c0:=hq.c0;have c1:=hq.c1;have hem:((q:Int) == (t.size:Int))=(Sp.skB r).isEmpty:=by
   have e1:=ha.len;have e2:=ha.le;cases hx:Sp.skB r with
   | nil=>rw[hx] at e1;simp at e1 |-; omega
   | cons a b=>rw[hx] at e1;simp at e1 |-; omega
  have HE:=Ab hem;have HA:=Ab ha;have HQ:=Ab hq;clear ha hq hem
  go_wp2_with (fail)
  go_quiet (fail)
  go_wp2_with (fail);rw[Aa HE]
  go_ret2
  exact⟨(hk02.trans hk3).drewN _,Or.inl ⟨v,r,fl',p,Aa HS,rfl,⟨q,Aa HA,(Aa HQ).drewN _⟩,hrep3.drewN _⟩⟩
 ·have HS:=Ab hs;clear hs hT
  go_wp2_with (fail)
  go_ret2
  exact⟨hk02,Or.inr ⟨Aa HS,none,rfl,hr2⟩⟩
def VS(t:Sp.By)(depth ex:Int)(e:Ending)(w w':World):Prop :=
 (∃c,Sp.readTo t depth ex=(c,none)/\0<c/\e = .returned (.tuple #[.pointer none,.int .i64 (c:Nat)])) \/
  (∃v p,Sp.readTo t depth ex=(0,some v)/\e = .returned (.tuple #[.pointer (some p),.int .i64 0])/\Tr top w.heap.size w' (.pointer (some p)) v)
theorem N3{t:Sp.By}{d x:Int}(h:2000<t.length):Sp.readTo t d x=(4,none):=by unfold Sp.readTo;rw[if_pos h]
theorem N2{t:Sp.By}{d x:Int}(h:¬ 2000<t.length)(hv:Sp.val top 1 (Sp.skB t) (false,(0,0))=none):Sp.readTo t d x=(5,none):=by unfold Sp.readTo;rw[if_neg h,hv]
theorem IH{t:Sp.By}{d x:Int}(h:¬ 2000<t.length){v:Sp.V}{r:Sp.By}{fl:Sp.Fl}(hv:Sp.val top 1 (Sp.skB t) (false,(0,0))=some (v,r,fl)) :
  Sp.readTo t d x=if (Sp.skB r).isEmpty then (if fl.1 then (6,none) else if d<fl.2.1 then (7,none) else if x<fl.2.2 then (8,none) else (0,some v)) else (5,none):=by unfold Sp.readTo;rw[if_neg h,hv]
theorem U2(s:ByteArray)(depth ex:Int)(w:World)(hT:Af w) :
  Calls Tryz.prog 77 #[.string s,.int .i64 depth,.int .i64 ex] w fun e w'=>Below w.heap.size w w'/\VS s.data.toList depth ex e w w':=by
 have hlen:s.data.toList.length=s.size:=(Lib.size_eq s).symm;by_cases hl:2000<s.size
 ·have h0:=Ab (N3 (d:=depth) (x:=ex) (show 2000<s.data.toList.length by omega));have e0:decide ((2000:Int)<(s.size:Int))=true:=by simp;omega
  clear hT hlen
  go_enter func77,ntmps77
  go_wp2_with (fail)
  go_ret2
  exact⟨Below.refl _ _,Or.inl ⟨4,Aa h0,by omega,rfl⟩⟩
 ·have e0:decide ((2000:Int)<(s.size:Int))=false:=by simp;omega
  have hn:¬ 2000<s.data.toList.length:=by omega
  have hR:=hT.ng;have hk0:Ad w.heap.size w (w.alloc (.cells #[.string s,.int .i64 0,.bool false,.int .i64 0,.int .i64 0] 155)):=(Ad.refl _ w).alloc _;have hr0:RD (w.alloc (.cells #[.string s,.int .i64 0,.bool false,.int .i64 0,.int .i64 0] 155)) w.heap.size s s.data.toList false 0 0:=by
   refine⟨0,⟨by omega,by omega,rfl⟩,?_⟩;show (w.heap.push _)[w.heap.size]? = _;simp
  have hT0:=hT.kept (X:=w.heap.size) hk0 hR;clear hT
  go_enter func77,ntmps77
  go_wp2_with (fail);refine (QK hr0 hT0 hR).mono ?_
  rintro e w2 ⟨hk2,hc⟩;have hk02:=hk0.trans hk2;have hb2:Below w.heap.size w w2:=hk02.below (Nat.le_refl _) (Nat.le_refl _);rcases hc with⟨v,r,fl',p,hs,rfl,hr2,hrep⟩|⟨hs,p,rfl,hr2⟩
  ·have h0:=Ab (IH (d:=depth) (x:=ex) hn hs);obtain⟨tw,dp,fr⟩:=fl';obtain⟨bb,rfl⟩:∃bb,p=some bb:=by
    obtain⟨b,hb,_⟩:=hrep.ptr;injection hb with hb;exact⟨_,hb⟩
   have hrep':Tr top w.heap.size w2 (.pointer (some bb)) v:=hrep.move (by simp) fun k h1 _=>rfl;obtain⟨q,ha,hq⟩:=hr2;simp only at hq;have c2:=hq.c2;have c3:=hq.c3;have c4:=hq.c4;clear hs hr0 ha hq hrep;cases hem:(Sp.skB r).isEmpty with
   | false =>
    have h1:=Ab (show Sp.readTo s.data.toList depth ex=(5,none) from by rw[Aa h0,hem];rfl);clear hem h0
    go_wp2_with (fail)
    go_ret2
    exact⟨hb2,Or.inl ⟨5,Aa h1,by omega,rfl⟩⟩
   | true =>
    cases htw:tw with
    | true =>
     have h1:=Ab (show Sp.readTo s.data.toList depth ex=(6,none) from by rw[Aa h0,hem];simp[htw]);subst htw;clear hem h0
     go_wp2_with (fail)
     go_ret2
     exact⟨hb2,Or.inl ⟨6,Aa h1,by omega,rfl⟩⟩
    | false =>
     subst htw;by_cases h7:depth<dp
     ·have h1:=Ab (show Sp.readTo s.data.toList depth ex=(7,none) from by rw[Aa h0,hem];simp[h7]);have e7:decide (depth<dp)=true:=by simpa using h7
      clear hem h0
      go_wp2_with (fail)
      go_ret2
      exact⟨hb2,Or.inl ⟨7,Aa h1,by omega,rfl⟩⟩
     ·have e7:decide (depth<dp)=false:=by simpa using h7
      by_cases h8:ex<fr
      ·have h1:=Ab (show Sp.readTo s.data.toList depth ex=(8,none) from by rw[Aa h0,hem];simp[h7,h8]);have e8:decide (ex<fr)=true:=by simpa using h8
       clear hem h0
       go_wp2_with (fail)
       go_ret2
       exact⟨hb2,Or.inl ⟨8,Aa h1,by omega,rfl⟩⟩
      ·have h1:=Ab (show Sp.readTo s.data.toList depth ex=(0,some v) from by rw[Aa h0,hem];simp[h7,h8]);have e8:decide (ex<fr)=false:=by simpa using h8
       clear hem h0
       go_wp2_with (fail)
       go_ret2
       exact⟨hb2,Or.inr ⟨v,_,Aa h1,rfl,hrep'⟩⟩
  ·have h1:=Ab (N2 (d:=depth) (x:=ex) hn hs);clear hs hr0
   go_wp2_with (fail)
   go_ret2
   exact⟨hb2,Or.inl ⟨5,Aa h1,by omega,rfl⟩⟩
end Go.Proofs.YtdpomdelmdofmaaGreatDoor

namespace Go.Proofs.YtdpomdelmdofmaaGreatDoor.Sp
def Fs(n:Nat):UInt8:=if n<10 then UInt8.ofNat (48+n) else UInt8.ofNat (87+n)
def Cr(c:UInt8):By:=if c.toNat=34\/c.toNat=92 then [92,c] else if c.toNat<32 then [92,117,48,48,Fs (c.toNat / 16),Fs (c.toNat % 16)] else [c]
def A7:By->By
 | []=>[]
 | c::r=>Cr c++A7 r
def Ah(s:By):By:=34::(A7 s++[34])
def A6(n:Nm):By:=if n.2.1=[] then [48] else (if n.1 then [45] else [])++(n.2.1++(if n.2.2=0 then [] else 101::Lib.itoa n.2.2))
def Bt:List By->By
 | []=>[]
 | x::r=>44::(x++Bt r)
def Ai:List By->By
 | []=>[]
 | x::r=>x++Bt r
def keys(es:List (Lit×V)):List By:=es.map fun p=>match p.1 with | .string b=>b|_=>[]
def look(es:List (Lit×V))(k:By):V:=DataW.atKey (.map es) (.string k) .nil
def can:Nat->V->By
 | 0,_=>[]
 | f+1,d=>match d with
  | .lit (.int _ k)=>words.getD k.toNat []
  | .lit (.string s)=>Ah s
  | .agg [.lit (.bool ng),.lit (.string ds),.lit (.int _ ex)]=>A6 (ng,ds,ex)
  | .slice es _=>91::(Ai (es.map (can f))++[93])
  | .map es=>123::(Ai (((keys es).mergeSort fun x y=>decide (x<=y)).map fun k=>Ah k++58::can f (look es k))++[125])
  | _=>[]
theorem GU(f k:Nat):can (f+1) (BV k)=words.getD k []:=rfl
theorem IC(f:Nat)(n:Nm):can (f+1) (Bj n)=A6 n:=rfl
theorem Gs(f:Nat)(s:By):can (f+1) (Az s)=Ah s:=rfl
theorem CP(f:Nat)(es:List V):can (f+1) (Ar es)=91::(Ai (es.map (can f))++[93]):=rfl
theorem IB(f:Nat)(es:List (Lit×V)):can (f+1) (Av es)=123::(Ai (((keys es).mergeSort fun x y=>decide (x<=y)).map fun k=>Ah k++58::can f (look es k))++[125]):=rfl
theorem P0(l:List By)(x:By):Bt (l++[x])=Bt l++44::x:=by
 induction l with
 | nil=>simp[Bt]
 | cons y r ih=>simp[Bt,ih]
theorem J7(l:List By)(i:Nat)(h:i<l.length):Ai (l.take (i+1))=Ai (l.take i)++((if 0<i then [44] else [])++l[i]):=by
 rw[List.take_succ_eq_append_getElem h];cases l with
 | nil=>simp at h
 | cons x r =>
  cases i with
  | zero=>simp[Ai,Bt]
  | succ i=>simp only[List.take_succ_cons,List.cons_append,Ai,P0];simp
theorem Dy(l:List By)(i:Nat):(Ai (l.take i)).length<=(Ai l).length:=by
 have h:∀ (r:List By) (i:Nat),(Bt (r.take i)).length<=(Bt r).length:=by
  intro r;induction r with
  | nil=>intro i;simp[Bt]
  | cons x r ih =>
   intro i;cases i with
   | zero=>simp[Bt]
   | succ i=>have:=ih i;simp[Bt];omega
 cases l with
 | nil=>simp
 | cons x r =>
  cases i with
  | zero=>simp[Ai]
  | succ i=>have:=h r i;simp[Ai];omega
theorem Sa(s:By)(i:Nat)(h:i<s.length):A7 (s.take (i+1))=A7 (s.take i)++Cr s[i]:=by
 have ha:∀ (a b:By),A7 (a++b)=A7 a++A7 b:=by
  intro a b;induction a with
  | nil=>rfl
  | cons c r ih=>simp[A7,ih]
 rw[List.take_succ_eq_append_getElem h,ha];simp[A7]
theorem Ns(c:UInt8):(Cr c).length<=6:=by
 unfold Cr;split
 ·simp
 ·split
  ·simp
  ·simp
theorem Jr(s:By):(A7 s).length<=6*s.length:=by
 induction s with
 | nil=>simp[A7]
 | cons c r ih=>have:=Ns c;simp[A7];omega
end Go.Proofs.YtdpomdelmdofmaaGreatDoor.Sp
