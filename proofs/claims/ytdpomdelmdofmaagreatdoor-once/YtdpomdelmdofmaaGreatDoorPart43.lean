/-
  DIFF: arrays.
-/
import Derived.Test.YtdpomdelmdofmaaGreatDoorPart42
import Derived.Test.YtdpomdelmdofmaaGreatDoorPart39
import Derived.Test.YtdpomdelmdofmaaGreatDoorPart41
import Derived.Test.YtdpomdelmdofmaaGreatDoorPart38
import Derived.Test.YtdpomdelmdofmaaGreatDoorPart31
import Derived.Test.YtdpomdelmdofmaaGreatDoorPart34
import Derived.Test.YtdpomdelmdofmaaGreatDoorPart35
namespace Go.Proofs.YtdpomdelmdofmaaGreatDoor
section
open Go.RowKit Go.Maps
def iv_ (i:Nat):Value:=.int .i64 i
structure DArI (w1:World) (Mk:Nat) (n:Int) (M1:Nat→Prop) (ops:List Sp.Opn) (s:List Sp.By) (xs ys:List Sp.V) (i j k:Nat) (mv:Value) (wr:World):Prop where
 ex:∃rs ms M',Sp.Got xs ys i j k rs ms∧MkK wr Mk n M' (fun b=>M' b∨mv.ownBlock=some b) (ops++rs.map (Sp.remO s))∧JEx M1 M' w1 wr∧wr.ownsRow 0 3 1 mv ms.length (ms.map iv_) ∧ ∀g,mv.ownBlock=some g → ¬ M' g
theorem n_int:(Tryz.prog.info? 3).map (fun i=>(i.zero,i.size,i.bytes))=some (some (.int .i64 0),1,8):=by kernel_rfl
theorem lay_more {wr w3:World} {Mk:Nat} {n:Int} {M' own:Nat→Prop} {ops':List Sp.Opn} (h:MkK wr Mk n M' (fun b=>M' b∨own b) ops') (ho:∀b,own b→b<wr.heap.size) (hb:Below wr.heap.size wr w3) :
  MkK w3 Mk n (fun b=>M' b∨(wr.heap.size≤b∧b<w3.heap.size)) (fun b=>(M' b∨(wr.heap.size≤b∧b<w3.heap.size))∨own b) ops'∧JEx M' (fun b=>M' b∨(wr.heap.size≤b∧b<w3.heap.size)) wr w3:=by
 have hs:=hb.size
 refine⟨h.moved (fun k hk _=>hb.block k hk) (fun k hk=>Or.inl hk) (fun k hk=>?_),⟨hb.os,hb.tape,hb.output,hs,fun k hk=>⟨Or.inl hk,hb.block k (h.low k (Or.inl hk))⟩⟩⟩
 rcases hk with (hk|hk)|hk
 ·have:=h.low k (Or.inl hk)
  exact⟨Or.inl (Or.inl hk),by omega⟩
 ·exact⟨Or.inr hk.1,hk.2⟩
 ·have:=ho k hk
  exact⟨Or.inl (Or.inr hk),by omega⟩
theorem lay_one {w1 wr w3:World} {Mk:Nat} {n:Int} {M1 M':Nat→Prop} {mv:Value} {ms:List Nat} {ops':List Sp.Opn} (h:MkK wr Mk n M' (fun b=>M' b∨mv.ownBlock=some b) ops') (hx:JEx M1 M' w1 wr) (ho:wr.ownsRow 0 3 1 mv ms.length (ms.map iv_)) (hnM:∀g,mv.ownBlock=some g → ¬ M' g) (hl:ops'.length≤1000000000)
  (hb:Below wr.heap.size wr w3) {o:Sp.Opn} {p:Addr} {pl pc:Nat} {x:Option Addr} (hk3:o.1<3) (htk:TokG w3 (fun b=>wr.heap.size≤b) (.slice (some p) pl pc) o.2.1) (hv:(o.1=1∧x=none)∨(o.1≠1∧Rep top M' wr (.pointer x) o.2.2)) :
  Calls Tryz.prog 169 #[.pointer (some ⟨Mk,0,none⟩),.int .i64 o.1,.slice (some p) pl pc,.pointer x] w3 fun e w4=>e = .returned (.tuple #[]) ∧ ∃M4,MkK w4 Mk n M4 (fun b=>M4 b∨mv.ownBlock=some b) (ops'++[o])∧JEx M1 M4 w1 w4∧w4.ownsRow 0 3 1 mv ms.length (ms.map iv_) ∧ ∀g,mv.ownBlock=some g → ¬ M4 g:=by
 obtain⟨h3,hx3⟩:=lay_more h (fun b hb=>(ownsN_lt ho b hb).1) hb
 refine (mLay_anyK h3 (fun _ hk=>Or.inl hk) hl ⟨rfl,hk3,htk.move fun b hb1 hb2=>⟨rfl,Or.inr ⟨hb1,hb2⟩⟩,rfl,?_⟩).mono ?_
 ·rcases hv with⟨e1,e2⟩|⟨e1,e2⟩
  ·exact Or.inl ⟨e1,by rw[e2]⟩
  ·exact Or.inr ⟨e1,e2.move fun b hb1 hb2=>⟨hb.block b hb2,Or.inl hb1⟩⟩
 ·rintro e w4 ⟨rfl,h4,hx4⟩
  have hx5:JEx M' (fun b=>M' b∨(wr.heap.size≤b∧b<w3.heap.size)) wr w4:=⟨hx4.os.trans hx3.os,hx4.tape.trans hx3.tape,hx4.output.trans hx3.output,Nat.le_trans hx3.size hx4.size,fun b hbm=>⟨Or.inl hbm,(hx4.kept b (Or.inl (Or.inl hbm))).2.trans (hx3.kept b hbm).2⟩⟩
  refine⟨rfl,_,h4,hx.trans hx5,ownsN_kept ho fun g hg=>(hx4.kept g (Or.inr hg)).2.trans (hb.block g (ownsN_lt ho g hg).1),fun g hg hm=>?_⟩
  rcases hm with hm|hm
  ·exact hnM g hg hm
  ·have:=(ownsN_lt ho g hg).1;omega
section
variable {w1 wr w3:World} {Mk:Nat} {n:Int} {M1:Nat→Prop} {ops:List Sp.Opn} {s:List Sp.By} {xs ys:List Sp.V} {i j k:Nat} {mv:Value}
theorem DArI.rem (h:DArI w1 Mk n M1 ops s xs ys i j k mv wr) (hi:i<xs.length) (he:Sp.lcs (xs.drop (i+1)) (ys.drop j)=Sp.lcs (xs.drop i) (ys.drop j)) (hops:ops.length≤500000000) (hxl:xs.length≤1000000) (hb:Below wr.heap.size wr w3) {p:Addr} {pl pc:Nat} (htk:TokG w3 (fun b=>wr.heap.size≤b) (.slice (some p) pl pc) (Sp.numb s k)) :
  Calls Tryz.prog 169 #[.pointer (some ⟨Mk,0,none⟩),.int .i64 1,.slice (some p) pl pc,.pointer none] w3 fun e w4=>e = .returned (.tuple #[])∧DArI w1 Mk n M1 ops s xs ys (i+1) j k mv w4:=by
 obtain⟨rs,ms,M',h1,h2,h3,h4,h5⟩:=h.ex
 have hl:=h1.len
 refine (lay_one (o:=Sp.remO s k) h2 h3 h4 h5 (by rw[List.length_append,List.length_map];omega) hb (by show 1<3;decide) htk (Or.inl ⟨rfl,rfl⟩)).mono ?_
 rintro e w4 ⟨rfl,M4,k1,k2,k3,k4⟩
 exact⟨rfl,⟨rs++[k],ms,M4,h1.rem hi he,by simpa using k1,k2,k3,k4⟩⟩
theorem DArI.mis (h:DArI w1 Mk n M1 ops s xs ys i j k mv wr) (hj:j<ys.length) (hn:¬ (i<xs.length∧Sp.lcs (xs.drop (i+1)) (ys.drop j)=Sp.lcs (xs.drop i) (ys.drop j))) (he:Sp.lcs (xs.drop i) (ys.drop (j+1))=Sp.lcs (xs.drop i) (ys.drop j)) :
  ∃ms:List Nat,ms.length≤ys.length∧wr.ownsRow 0 3 1 mv ms.length (ms.map iv_) ∧ ∀ (g cap:Nat) (o:Obj) (w3:World),w3.ownsRow 0 3 1 (.slice (some ⟨g,0,none⟩) (ms.length+1) cap) (ms.length+1) (ms.map iv_++[iv_ j])→(wr.alloc o).grownBy w3 mv.ownBlock→(mv.ownBlock=some g∨g=wr.heap.size+1)→DArI w1 Mk n M1 ops s xs ys i (j+1) k (.slice (some ⟨g,0,none⟩) (ms.length+1) cap) w3:=by
 obtain⟨rs,ms,M',h1,h2,h3,h4,h5⟩:=h.ex
 refine⟨ms,h1.len.2.1,h4,fun g cap o w3 ho hg hat=>?_⟩
 have hs:wr.heap.size+1≤w3.heap.size:=by have:=hg.size;simpa using this
 have hk:∀b,b<wr.heap.size→mv.ownBlock≠some b→w3.heap[b]? = wr.heap[b]?:=fun b hb hne=>(hg.block b (by simp;omega) (fun e=>hne e.symm)).trans (Below.heap_alloc wr o b hb)
 have hgl:g<w3.heap.size:=(ownsN_lt ho g rfl).1
 refine⟨rs,ms++[j],M',h1.mis hj hn he,h2.moved (fun b hb hor=>hk b hb fun e=>?_) (fun _ hb=>hb) (fun b hb=>?_),h3.trans ⟨hg.os,hg.tape,hg.output,by omega,fun b hb=>⟨hb,hk b (h2.low b (Or.inl hb)) fun e=>h5 b e hb⟩⟩,by simpa using ho,fun q hq hm=>?_⟩
 ·rcases hor with hor|hor
  ·exact hor (Or.inr e)
  ·exact h5 b e hor
 ·rcases hb with hb|hb
  ·have:=h2.low b (Or.inl hb)
   exact⟨Or.inl (Or.inl hb),by omega⟩
  ·simp[Value.ownBlock] at hb
   subst hb
   rcases hat with e|e
   ·exact⟨Or.inl (Or.inr e),hgl⟩
   ·exact⟨Or.inr (by omega),hgl⟩
 ·simp[Value.ownBlock] at hq
  subst hq
  rcases hat with e|e
  ·exact h5 _ e hm
  ·have:=h2.low _ (Or.inl hm);omega
theorem DArI.keep (h:DArI w1 Mk n M1 ops s xs ys i j k mv wr) (hi:i<xs.length) (hj:j<ys.length) (e1:Sp.lcs (xs.drop (i+1)) (ys.drop j)≠Sp.lcs (xs.drop i) (ys.drop j)) (e2:Sp.lcs (xs.drop i) (ys.drop (j+1))≠Sp.lcs (xs.drop i) (ys.drop j)):DArI w1 Mk n M1 ops s xs ys (i+1) (j+1) (k+1) mv wr:=by
 obtain⟨rs,ms,M',h1,h2⟩:=h.ex
 exact⟨rs,ms,M',h1.keep hi hj e1 e2,h2⟩
end
structure DLo (w1:World) (Mk:Nat) (n:Int) (M1:Nat→Prop) (ops':List Sp.Opn) (s:List Sp.By) (ys:List Sp.V) (ms:List Nat) (mv:Value) (t:Nat) (wr:World):Prop where
 ex:∃M',MkK wr Mk n M' (fun b=>M' b∨mv.ownBlock=some b) (ops'++(ms.take t).map (Sp.addO s ys))∧JEx M1 M' w1 wr∧wr.ownsRow 0 3 1 mv ms.length (ms.map iv_) ∧ ∀g,mv.ownBlock=some g → ¬ M' g
theorem DLo.add {w1 wr w3:World} {Mk:Nat} {n:Int} {M1:Nat→Prop} {ops':List Sp.Opn} {s:List Sp.By} {ys:List Sp.V} {ms:List Nat} {mv:Value} {t q:Nat} {p:Addr} {pl pc:Nat} {x:Option Addr} (h:DLo w1 Mk n M1 ops' s ys ms mv t wr) (ht:t<ms.length) (hq:ms[t]=q) (hqy:q<ys.length) (hl:ops'.length+ms.length≤1000000000) (hb:Below wr.heap.size wr w3) (htk:TokG w3 (fun b=>wr.heap.size≤b) (.slice (some p) pl pc) (Sp.numb s q)) (hv:Rep top M1 w1 (.pointer x) ys[q]) :
  Calls Tryz.prog 169 #[.pointer (some ⟨Mk,0,none⟩),.int .i64 0,.slice (some p) pl pc,.pointer x] w3 fun e w4=>e = .returned (.tuple #[])∧DLo w1 Mk n M1 ops' s ys ms mv (t+1) w4:=by
 obtain⟨M',h2,h3,h4,h5⟩:=h.ex
 have e1:(Sp.addO s ys q).2.2=ys[q]:=by
  show (ys[q]?).getD .nil=_
  rw[List.getElem?_eq_getElem hqy];rfl
 have e2:ms.take (t+1)=ms.take t++[q]:=by rw[List.take_succ_eq_append_getElem ht,hq]
 refine (lay_one (o:=Sp.addO s ys q) h2 h3 h4 h5 (by rw[List.length_append,List.length_map,List.length_take];omega) hb (by show 0<3;decide) htk (Or.inr ⟨by show 0≠1;decide,by rw[e1];exact hv.move fun b hb1 _=>⟨(h3.kept b hb1).2,(h3.kept b hb1).1⟩⟩)).mono ?_
 rintro e w4 ⟨rfl,M4,k1,k2,k3,k4⟩
 exact⟨rfl,⟨M4,by rw[e2];simpa using k1,k2,k3,k4⟩⟩
end

section
set_option maxRecDepth 100000
set_option maxHeartbeats 8000000
open Go.RowKit Go.Maps
theorem mArrays_any {f:Nat} {F F':Nat→Prop} {w:World} {Mk:Nat} {n:Int} {M:Nat→Prop} {ops:List Sp.Opn} {sl1 sl2:Value} {ps1 ps2:List Value} {xs ys:List Sp.V} {pa:Option Addr} {pl pc:Nat} {s:List Sp.By} (h:MkD w Mk n M ops) (hT:Laid w) (hNG:∀k,k<NG→M k) (hf:f≤top) (hF':∀k,F' k→M k) (hn2:(xs.length+1)*(ys.length+1)≤1000000) (hops:ops.length≤500000000)
  (o1:w.ownsRow 0 80 1 sl1 ps1.length ps1) (a1:Al (Rep f F w) ps1 xs) (o2:w.ownsRow 0 80 1 sl2 ps2.length ps2) (hg2:∀g,sl2.ownBlock=some g→F' g) (a2:Al (Rep f F' w) ps2 ys) (hp:TokG w M (.slice pa pl pc) s) (hpl:s.length≤100000000) (hnil:s=[] → ∃c,(Value.slice pa pl pc) = .slice none 0 c) :
  Calls Tryz.prog 168 #[.pointer (some ⟨Mk,0,none⟩),.slice pa pl pc,sl1,sl2] w (DfEnd Mk n M ops (Sp.diffA s xs ys) w):=by
 have HLEN:=hide (lengthsOf_any o1 a1 o2 a2 hn2)
 obtain⟨_,hN,ao1,cap1,g1,c1,rfl,_,_,_⟩:=row_ptr o1 a1
 obtain⟨_,hM,ao2,cap2,g2,c2,rfl,hg2',hc2,hr2⟩:=row_ptr o2 a2
 obtain⟨N,hNe⟩:∃N,N=xs.length:=⟨_,rfl⟩
 obtain⟨K,hKe⟩:∃K,K=ys.length:=⟨_,rfl⟩
 have hN6:N+1≤1000000:=by
  have:(xs.length+1)*1≤(xs.length+1)*(ys.length+1):=Nat.mul_le_mul_left _ (by omega)
  omega
 have hK6:K+1≤1000000:=by
  have:1*(ys.length+1)≤(xs.length+1)*(ys.length+1):=Nat.mul_le_mul_right _ (by omega)
  omega
 rw[← hNe,← hKe] at HLEN ⊢
 obtain⟨Q,hQ⟩:∃Q,Q=DfEnd Mk n M ops (Sp.diffA s xs ys) w:=⟨_,rfl⟩
 rw[← hQ]
 have HQ:=hide hQ
 have HH:=hide h
 have HT:=hide hT
 have HNG:=hide hNG
 have HF:=hide hF'
 have HPA:=hide hp
 have HPL:=hide hpl
 have HNL:=hide hnil
 have HNe:=hide hNe
 have HKe:=hide hKe
 have HOPS:=hide hops
 have HG2:=hide (show 0<K→ao2=some ⟨g2,0,none⟩∧g2<w.heap.size∧M g2 from fun hp=>by
  obtain⟨e,h2⟩:=hg2' (by omega)
  exact⟨e,h2,hF' _ (hg2 g2 (by rw[e];rfl))⟩)
 have HC2:=hide hc2
 have HR2:=hide hr2
 clear hQ h hT hNG hF' hp hpl hnil hNe hKe hops hg2 hg2' hc2 hr2 o1 a1 o2 a2 hn2 hN hM
 go_enter Tryz.func168,Tryz.ntmps168
 go_wp2_with (fail)
 refine (unhide HLEN).mono ?_
 rintro e w1 ⟨m,cnt,D,rfl,hm,hmap,htb,hb1⟩
 have hml:m<w1.heap.size:=by obtain⟨es,clock,hb,_⟩:=hmap;exact (Array.getElem?_eq_some_iff.1 hb).1
 obtain⟨hd1,hX1⟩:=(unhide HH).grow hb1 (fun b=>w.heap.size≤b∧b<w1.heap.size) (fun _ h=>h)
 obtain⟨M1,eM1⟩:∃M1,M1=fun b=>M b∨(w.heap.size≤b∧b<w1.heap.size):=⟨_,rfl⟩
 rw[← eM1] at hd1 hX1
 have HMM:=hide (show M1 m from by rw[eM1];exact Or.inr ⟨hm,hml⟩)
 have HI0:=hide (show DArI w1 Mk n M1 ops s xs ys 0 0 0 (.slice none 0 0) w1 from⟨⟨[],[],M1,Sp.Got.start,by
  simpa using hd1.less (K':=fun b=>M1 b∨(Value.slice none 0 0).ownBlock=some b) (fun b hb=>hb.elim id fun e=>by cases e),JEx.refl _ _,⟨rfl,Or.inl ⟨rfl,rfl⟩⟩,fun g hg=>by cases hg⟩⟩)
 have HX1:=hide hX1
 have HTB:=hide (And.intro hmap htb)
 clear hm hmap htb hb1 hml hd1 hX1 eM1 HLEN
 go_wp2_with (fail)
 go_loopw [9,10,11,12] (fun mv vi vj vk wr=>∃ (i j k ul uc:Nat) (ua:Option Addr),mv = .slice ua ul uc∧vi = .int .i64 i∧vj = .int .i64 j∧vk = .int .i64 k∧Hid (DArI w1 Mk n M1 ops s xs ys i j k (.slice ua ul uc) wr)∧i≤N∧j≤K∧k≤i) (fun _ vi vj _ _=>(N-(intOf vi).toNat)+(K-(intOf vj).toNat))
 case atStart=>exact⟨0,0,0,0,0,none,rfl,rfl,rfl,rfl,HI0,by omega,by omega,by omega⟩
 case round =>
  obtain⟨i,j,k,ul,uc,ua,rfl,rfl,rfl,rfl,HI,hiN,hjK,hki⟩:=hrel
  obtain⟨u0,hu0⟩:∃u0,u0=Sp.lcs (xs.drop i) (ys.drop j):=⟨_,rfl⟩
  obtain⟨u1,hu1⟩:∃u1,u1=Sp.lcs (xs.drop (i+1)) (ys.drop j):=⟨_,rfl⟩
  obtain⟨u2,hu2⟩:∃u2,u2=Sp.lcs (xs.drop i) (ys.drop (j+1)):=⟨_,rfl⟩
  obtain⟨i1,hi1⟩:∃i1,i1=i+1:=⟨_,rfl⟩
  obtain⟨j1,hj1⟩:∃j1,j1=j+1:=⟨_,rfl⟩
  obtain⟨k1,hk1⟩:∃k1,k1=k+1:=⟨_,rfl⟩
  have w1':IntKind.i64.wrap ((i:Int)+1)=(i1:Int):=by rw[IntKind.wrap_i64];omega
  have w2':IntKind.i64.wrap ((j:Int)+1)=(j1:Int):=by rw[IntKind.wrap_i64];omega
  have w3':IntKind.i64.wrap ((k:Int)+1)=(k1:Int):=by rw[IntKind.wrap_i64];omega
  have hmb:wr.heap[m]? = w1.heap[m]?:=by
   obtain⟨rs,ms,M',_,_,hx,_⟩:=(unhide HI).ex
   exact (hx.kept m (unhide HMM)).2
  have L0:=tb_look (unhide HTB).1 (unhide HTB).2 (i:=i) (j:=j) (by omega) (by omega) hmb
  have L1:=tb_look (unhide HTB).1 (unhide HTB).2 (i:=i1) (j:=j) (by omega) (by omega) hmb
  have L2:=tb_look (unhide HTB).1 (unhide HTB).2 (i:=i) (j:=j1) (by omega) (by omega) hmb
  rw[← hu0] at L0
  simp only[hi1,← hu1] at L1
  simp only[hj1,← hu2] at L2
  rw[← hi1] at L1
  rw[← hj1] at L2
  have HU:=hide (show u0=Sp.lcs (xs.drop i) (ys.drop j)∧u1=Sp.lcs (xs.drop (i+1)) (ys.drop j)∧u2=Sp.lcs (xs.drop i) (ys.drop (j+1))∧i1=i+1∧j1=j+1∧k1=k+1 from⟨hu0,hu1,hu2,hi1,hj1,hk1⟩)
  clear hu0 hu1 hu2 hi1 hj1 hk1 hmb
  have HLW:=hide (show Laid wr∧TokG wr M1 (.slice pa pl pc) s ∧ ∀b,M1 b→b<wr.heap.size from by
   obtain⟨rs,ms,M',_,h2,hx,_⟩:=(unhide HI).ex
   have hxx:=(unhide HX1).trans hx
   exact⟨(unhide HT).below ⟨hxx.os,hxx.tape,hxx.output,hxx.size,fun b hb=>(hxx.kept b (unhide HNG b hb)).2⟩,(unhide HPA).move fun b hb _=>⟨(hxx.kept b hb).2,((unhide HX1).kept b hb).1⟩,fun b hb=>h2.low b (Or.inl (hx.kept b hb).1)⟩)
  by_cases hA:i<N∧u1=u0
  ·obtain⟨hiN2,e1⟩:=hA
   have hlt1:(i:Int)<(N:Int):=by omega
   have eq1:((u1:Int) == (u0:Int))=true:=by simp[e1]
   have HREM:=hide (fun (w3:World) (hb:Below wr.heap.size wr w3) (p:Addr) (pl pc:Nat) (htk:TokG w3 (fun b=>wr.heap.size≤b) (.slice (some p) pl pc) (Sp.numb s k))=>(unhide HI).rem (by have:=unhide HNe;omega) (by obtain⟨a1,a2,_⟩:=unhide HU;rw[← a1,← a2];exact e1) (unhide HOPS) (by have:=unhide HNe;omega) hb htk)
   clear L2 e1
   go_wp2_with (fail)
   refine (Tryz.strconv_Itoa k (by omega) (by omega) wr (unhide HLW).1.tab).mono ?_
   rintro e w2 ⟨rfl,kk,os,rfl⟩
   have hb2:=grow_below wr kk os
   generalize Sort.grow (wr.drewN kk) os=w2 at *
   have HB2:=hide hb2
   have hs2:=hb2.size
   have HTO:=hide (pTo_any (t:=Lib.itoa (k:Int)) ((unhide HLW).2.1.move fun b hb hbl=>⟨hb2.block b hbl,hb⟩) (unhide HPL) (unhide HNL))
   clear hb2
   go_wp2_with (fail)
   refine (unhide HTO).mono ?_
   rintro e w3 ⟨g',cap',rfl,hg',htk,hb3⟩
   have HLAY:=hide (unhide HREM w3 ((unhide HB2).trans (hb3.mono hs2)) ⟨g',0,none⟩ (s.length+1) cap' (htk.move fun b hb _=>⟨rfl,Nat.le_trans hs2 hb⟩))
   clear htk hb3 HREM HTO
   go_wp2_with (fail)
   refine (unhide HLAY).mono ?_
   rintro e w4 ⟨rfl,hI4⟩
   have HI4:=hide (show DArI w1 Mk n M1 ops s xs ys i1 j k (.slice ua ul uc) w4 from by rw[(unhide HU).2.2.2.1];exact hI4)
   have hi1:=(unhide HU).2.2.2.1
   have hi1N:i1≤N:=by omega
   have hki1:k≤i1:=by omega
   have hme:(N-i1)<N-i:=by omega
   clear hI4 hi1 HLAY
   go_wp2_with (fail)
   exact⟨⟨i1,j,k,ul,uc,ua,rfl,rfl,rfl,rfl,HI4,hi1N,hjK,hki1⟩,by simp[intOf];omega⟩
  by_cases hB:j<K∧u2=u0
  ·obtain⟨hjK2,e2⟩:=hB
   have hlt2:(j:Int)<(K:Int):=by omega
   have eq2:((u2:Int) == (u0:Int))=true:=by simp[e2]
   obtain⟨ms,hml,hrow,hnext⟩:=(unhide HI).mis (by have:=unhide HKe;omega) (fun ⟨q1,q2⟩=>hA ⟨by have:=unhide HNe;omega,by obtain⟨a1,a2,_⟩:=unhide HU;rw[a1,a2];exact q2⟩) (by obtain⟨a1,_,a3,_⟩:=unhide HU;rw[← a1,← a3];exact e2)
   obtain⟨i0,hi0,h0⟩:=Option.map_eq_some_iff.1 n_int
   injection h0 with hz h0
   injection h0 with hz2 hz3
   obtain⟨z0,hz9⟩:∃z0,z0=Value.int .i64 0:=⟨_,rfl⟩
   rw[← hz9] at hz
   have hz1:z0.cells.size=1:=by rw[hz9];rfl
   have hml6:ms.length+1≤1000000:=by have:=unhide HKe;omega
   have HROW:=hide hrow
   have HNEXT:=hide hnext
   have hAB:(i<N∧u1≠u0) ∨ ¬ i<N:=by
    by_cases hi:i<N
    ·exact Or.inl ⟨hi,fun e=>hA ⟨hi,e⟩⟩
    ·exact Or.inr hi
   clear hrow hnext e2 hml hA hz9
   have hj1:=(unhide HU).2.2.2.2.1
   have hj1K:j1≤K:=by omega
   have hme:(K-j1)<K-j:=by omega
   rcases hAB with⟨hiN2,e1⟩|hiN2
   ·have hlt1:(i:Int)<(N:Int):=by omega
    have eq1:((u1:Int) == (u0:Int))=false:=by simp;omega
    clear e1 hj1
    go_wp2_with (at_builtin;refine wpList_append_lies _ rfl _ _ _ rfl 0 3 i0 z0 1 8 Tryz.underlying27 hi0 hz hz2 hz3 hz1 (by decide) (.slice ua ul uc) ms.length (ms.map iv_) rfl ((unhide HROW).alloc _) ⟨wr.heap.size,0,none⟩ 1 1 [.int .i64 j] rfl rfl (World.news_of_block (cs:=#[.int .i64 j]) (t:=3) (fr:=(0,0)) (heap_alloc_new wr _)) (by simp[Value.oneCell']) (by decide) (by unfold maxLen;omega) (by omega) (Nat.zero_le _) (wr.heap.size+1) (by simp) ?_;intro g cap w3 hown3 hgrow hat hlt;have HI4:=hide (unhide HNEXT g cap _ w3 hown3 hgrow hat);clear hown3 hgrow hat hlt)
    refine⟨⟨i,j1,k,ms.length+1,cap,some ⟨g,0,none⟩,rfl,rfl,rfl,rfl,?_,hiN,hj1K,hki⟩,by simp[intOf];omega⟩
    rw[(unhide HU).2.2.2.2.1]
    exact HI4
   ·have hlt1:¬ (i:Int)<(N:Int):=by omega
    clear L1 hj1
    go_wp2_with (at_builtin;refine wpList_append_lies _ rfl _ _ _ rfl 0 3 i0 z0 1 8 Tryz.underlying27 hi0 hz hz2 hz3 hz1 (by decide) (.slice ua ul uc) ms.length (ms.map iv_) rfl ((unhide HROW).alloc _) ⟨wr.heap.size,0,none⟩ 1 1 [.int .i64 j] rfl rfl (World.news_of_block (cs:=#[.int .i64 j]) (t:=3) (fr:=(0,0)) (heap_alloc_new wr _)) (by simp[Value.oneCell']) (by decide) (by unfold maxLen;omega) (by omega) (Nat.zero_le _) (wr.heap.size+1) (by simp) ?_;intro g cap w3 hown3 hgrow hat hlt;have HI4:=hide (unhide HNEXT g cap _ w3 hown3 hgrow hat);clear hown3 hgrow hat hlt)
    refine⟨⟨i,j1,k,ms.length+1,cap,some ⟨g,0,none⟩,rfl,rfl,rfl,rfl,?_,hiN,hj1K,hki⟩,by simp[intOf];omega⟩
    rw[(unhide HU).2.2.2.2.1]
    exact HI4
  by_cases hiN2:i<N
  ·have e1:u1≠u0:=fun e=>hA ⟨hiN2,e⟩
   have hjK2:j<K:=by
    by_cases hj:j<K
    ·exact hj
    ·exfalso
     obtain⟨a1,a2,_⟩:=unhide HU
     exact e1 (by rw[a1,a2];exact Sp.lcs_end_j (by have:=unhide HKe;omega) _ _)
   have e2:u2≠u0:=fun e=>hB ⟨hjK2,e⟩
   have hlt1:(i:Int)<(N:Int):=by omega
   have hlt2:(j:Int)<(K:Int):=by omega
   have eq1:((u1:Int) == (u0:Int))=false:=by simp;omega
   have eq2:((u2:Int) == (u0:Int))=false:=by simp;omega
   have HI4:=hide (show DArI w1 Mk n M1 ops s xs ys i1 j1 k1 (.slice ua ul uc) wr from by
    obtain⟨a1,a2,a3,a4,a5,a6⟩:=unhide HU
    rw[a4,a5,a6]
    exact (unhide HI).keep (by have:=unhide HNe;omega) (by have:=unhide HKe;omega) (by rw[← a1,← a2];exact e1) (by rw[← a1,← a3];exact e2))
   have hnx:i1≤N∧j1≤K∧k1≤i1∧N-i1<N-i∧K-j1<K-j:=by
    obtain⟨_,_,_,a4,a5,a6⟩:=unhide HU
    omega
   clear e1 e2 hA hB
   go_wp2_with (fail)
   exact⟨⟨i1,j1,k1,ul,uc,ua,rfl,rfl,rfl,rfl,HI4,hnx.1,hnx.2.1,hnx.2.2.1⟩,by simp[intOf];omega⟩
  ·have hjK2:¬ j<K:=fun hj=>by
    obtain⟨a1,_,a3,_⟩:=unhide HU
    exact hB ⟨hj,by rw[a1,a3];exact Sp.lcs_end_i (by have:=unhide HNe;omega) _ _⟩
   have hlt1:¬ (i:Int)<(N:Int):=by omega
   have hlt2:¬ (j:Int)<(K:Int):=by omega
   obtain⟨rs,ms,M',h1,h2,h3,h4,h5⟩:=(unhide HI).ex
   have hprt:=h1.end_ (by have:=unhide HNe;omega) (by have:=unhide HKe;omega)
   have hlen:=h1.len
   obtain⟨ops',hops'⟩:∃ops',ops'=ops++rs.map (Sp.remO s):=⟨_,rfl⟩
   rw[← hops'] at h2
   have HD0:=hide (show DLo w1 Mk n M1 ops' s ys ms (.slice ua ul uc) 0 wr from⟨M',by simpa using h2,h3,h4,h5⟩)
   have HROW:=hide h4
   have HP:=hide (show ops++Sp.diffA s xs ys=ops'++ms.map (Sp.addO s ys) by rw[Sp.diffA_eq,hprt,hops',List.append_assoc])
   have HL:=hide (show ops'.length+ms.length≤1000000000 ∧ ∀q∈ms,q<ys.length from by
    have:=unhide HOPS
    have:=unhide HNe
    have:=unhide HKe
    rw[hops',List.length_append,List.length_map]
    exact⟨by omega,hlen.2.2⟩)
   clear hA hB L0 L1 L2 h1 h2 h3 h4 h5 hprt hlen hops'
   obtain⟨g,hul,hua⟩:∃g,ul=ms.length∧(0<ms.length→ua=some ⟨g,0,none⟩):=by
    rcases (unhide HROW).2 with⟨e,h0⟩|⟨g,cap,cur,e,_⟩
    ·injection e with q1 q2 q3
     exact⟨0,by omega,fun hp=>by omega⟩
    ·injection e with q1 q2 q3
     exact⟨g,q2,fun _=>q1⟩
   subst hul
   have HUA:=hide hua
   have hmlk:ms.length≤1000000000:=by have:=(unhide HL).1;omega
   clear hua
   go_wp2_with (fail)
   go_loopw [86] (fun vt wr2=>∃t:Nat,t≤ms.length∧vt = .int .i64 t∧Hid (DLo w1 Mk n M1 ops' s ys ms (.slice ua ms.length uc) t wr2)) (fun vt _=>ms.length-(intOf vt).toNat)
   case atStart=>exact⟨0,by omega,rfl,HD0⟩
   case round =>
    obtain⟨t,ht,rfl,HD⟩:=hrel
    by_cases htl:t<ms.length
    ·have htl2:(t:Int)<(ms.length:Int):=by omega
     obtain rfl:=unhide HUA (by omega)
     obtain⟨q,hq⟩:∃q,q=ms[t]:=⟨_,rfl⟩
     have hqy:q<ys.length:=(unhide HL).2 q (by rw[hq];exact List.getElem_mem htl)
     have hqK:q<K:=by have:=unhide HKe;omega
     have hqK2:(q:Int)<(K:Int):=by omega
     obtain⟨M',m2,m3,m4,m5⟩:=(unhide HD).ex
     have hxx:=(unhide HX1).trans m3
     have ct:wr.cell? ⟨g,t,none⟩=some (.int .i64 q):=by
      obtain⟨g',cap',e,_,_,_,hc⟩:=owns_cell1 m4 (by omega)
      injection e with e
      injection e with e
      injection e with e
      subst e
      rw[hc t (by simpa using htl),hq]
      simp[iv_]
     obtain⟨ha2,hg2l,hg2M⟩:=unhide HG2 (by omega)
     subst ha2
     have cq:wr.cell? ⟨g2,q,none⟩=some (.pointer (c2 q)):=(World.cell?_of_block (a:=⟨g2,q,none⟩) (hxx.kept g2 hg2M).2).trans (unhide HC2 q hqy)
     have hrq:Rep top M1 w1 (.pointer (c2 q)) ys[q]:=((unhide HR2 q hqy).move fun b hb hbl=>⟨((unhide HX1).kept b (unhide HF b hb)).2,((unhide HX1).kept b (unhide HF b hb)).1⟩).up hf
     have hLw:Laid wr:=(unhide HT).below ⟨hxx.os,hxx.tape,hxx.output,hxx.size,fun b hb=>(hxx.kept b (unhide HNG b hb)).2⟩
     have hpw:TokG wr M1 (.slice pa pl pc) s:=(unhide HPA).move fun b hb _=>⟨(hxx.kept b hb).2,((unhide HX1).kept b hb).1⟩
     have HIT:=hide (fun w1 (hb:Below wr.heap.size wr w1)=>show Calls Tryz.prog 94 #[.int .i64 q] w1 fun e w'=>e = .returned (.string ⟨(Lib.itoa (q:Int)).toArray⟩)∧Below w1.heap.size w1 w' from (Tryz.strconv_Itoa q (by omega) (by omega) w1 (hLw.below (hb.mono hLw.ng)).tab).mono (by
      rintro e w' ⟨rfl,kk,os,rfl⟩
      exact⟨rfl,grow_below _ _ _⟩))
     have HTO:=hide (fun w1 (hb:Below wr.heap.size wr w1)=>pTo_any (w:=w1) (t:=Lib.itoa (q:Int)) (hpw.move fun b hb1 hbl=>⟨hb.block b hbl,hb1⟩) (unhide HPL) (unhide HNL))
     have HADD:=hide (fun w3 (hb:Below wr.heap.size wr w3) (p:Addr) (pl pc:Nat) (htk:TokG w3 (fun b=>wr.heap.size≤b) (.slice (some p) pl pc) (Sp.numb s q))=>(unhide HD).add (x:=c2 q) htl hq.symm hqy (unhide HL).1 hb htk hrq)
     have hgl:g<wr.heap.size:=(ownsN_lt m4 g rfl).1
     obtain⟨wl,hwl⟩:∃wl,wl=w1:=⟨_,rfl⟩
     rw[← hwl] at HADD
     have HWL:=hide hwl
     clear hwl
     have hg2w:g2<wr.heap.size:=Nat.lt_of_lt_of_le hg2l hxx.size
     have hqs:=hide hq
     clear m2 m3 m4 m5 hxx hg2M hrq hLw hpw hg2l hq
     go_upto_region 15 with (fail)
     refine wp_region_any (by kernel_rfl) ?_
     refine wpAny_invC (fun lJ aJ wJ=>lJ.size=10∧(lJ.getD 9 false=false→Below (wr).heap.size wr wJ) ∧ ∃x90 x91 x92 x93 x94 x95 x96 x97 x98 x99,aJ={ tmps:=#[.pointer (some ⟨Mk,0,none⟩),.slice pa pl pc,.slice ao1 N cap1,.slice (some ⟨g2,0,none⟩) K cap2,undef,undef,undef,undef,.map (some m),.slice (some ⟨g,0,none⟩) ms.length uc,.int .i64 ↑i,.int .i64 ↑j,.int .i64 ↑k,u13,undef,.int .i64 ↑q,.slice ao1 N cap1,.slice (some ⟨g2,0,none⟩) K cap2,.map (some m),.int .i64 ↑i,.slice ao1 N cap1,.int .i64 ↑N,.bool false,.bool false,.int .i64 ↑j,.slice (some ⟨g2,0,none⟩) K cap2,.int .i64 ↑K,.bool false,.bool false,u29,u30,u31,u32,u33,u34,u35,u36,u37,u38,u39,u40,u41,u42,u43,u44,u45,u46,u47,u48,u49,u50,u51,u52,u53,u54,u55,u56,u57,u58,u59,u60,u61,u62,u63,u64,u65,u66,u67,u68,u69,u70,u71,u72,u73,u74,u75,u76,u77,u78,u79,u80,u81,u82,u83,.slice (some ⟨g,0,none⟩) ms.length uc,.int .i64 ↑ms.length,.int .i64 ↑t,.bool true,.pointer (some ⟨g,t,none⟩),.int .i64 ↑q,x90,x91,x92,x93,x94,x95,x96,x97,x98,x99,u100],defers:=[] }∧(lJ.getD 0 false=true→x90 = .pointer (some ⟨Mk,0,none⟩))∧(lJ.getD 1 false=true→x91 = .slice pa pl pc)∧(lJ.getD 2 false=true→x92 = .int .i64 q)∧(lJ.getD 3 false=true→x93 = .string ⟨(Lib.itoa (q:Int)).toArray⟩)∧(lJ.getD 4 false=true→lJ.getD 9 false=false→(fun w x=>(∃xa xl xc,x = .slice (some xa) xl xc)∧TokG w (fun b=>wr.heap.size≤b) x (Sp.numb s q)) wJ x94)∧(lJ.getD 5 false=true→x95 = .slice (some ⟨g2,0,none⟩) K cap2)∧(lJ.getD 6 false=true→x96 = .int .i64 q)∧(lJ.getD 7 false=true→x97 = .pointer (some ⟨g2,q,none⟩))∧(lJ.getD 8 false=true→x98 = .pointer (c2 q))∧(lJ.getD 9 false=true→(fun w _=>DLo wl Mk n M1 ops' s ys ms (.slice (some ⟨g,0,none⟩) ms.length uc) (t+1) w) wJ x99)) ?hs ?he _ _ _ ?h0
     case h0 =>
      refine⟨rfl,fun _=>⟨rfl,rfl,rfl,Nat.le_refl _,fun _ _=>rfl⟩,_,_,_,_,_,_,_,_,_,_,rfl,?_⟩
      refine⟨?_,?_,?_,?_,?_,?_,?_,?_,?_,?_⟩<;>(intro h;exact absurd h (by decide))
     case he =>
      intro l a w1 hJ hr
      have hall:=ready_none hJ.1 (by kernel_rfl) hr
      obtain⟨hsz,hbel,x90,x91,x92,x93,x94,x95,x96,x97,x98,x99,rfl,e0,e1,e2,e3,e4,e5,e6,e7,e8,e9⟩:=hJ
      have f0:=e0 (hall 0 (by decide))
      have f1:=e1 (hall 1 (by decide))
      have f2:=e2 (hall 2 (by decide))
      have f3:=e3 (hall 3 (by decide))
      have f4:=e4 (hall 4 (by decide))
      have f5:=e5 (hall 5 (by decide))
      have f6:=e6 (hall 6 (by decide))
      have f7:=e7 (hall 7 (by decide))
      have f8:=e8 (hall 8 (by decide))
      have f9:=e9 (hall 9 (by decide))
      clear e0 e1 e2 e3 e4 e5 e6 e7 e8 e9 hall hr
      clear f0 f1 f2 f3 f4 f5 f6 f7 f8
      have HFI:=hide f9
      clear f9
      go_wp2_with (fail)
      exact⟨⟨t+1,by omega,by go_num,by rw[← unhide HWL];exact HFI⟩,by simp[intOf];omega⟩
     case hs =>
      intro l a w1 hcl hJ i hi
      obtain⟨hno,haft⟩:=ready_after hi
      have hi12:i<10:=by
       obtain⟨_,o,ho,_⟩:=mem_ready.1 hi
       exact (Array.getElem?_eq_some_iff.1 ho).1
      obtain⟨hsz,hbel,x90,x91,x92,x93,x94,x95,x96,x97,x98,x99,rfl,e0,e1,e2,e3,e4,e5,e6,e7,e8,e9⟩:=hJ
      clear hi
      have hcase:i=0∨i=1∨i=2∨i=3∨i=4∨i=5∨i=6∨i=7∨i=8∨i=9:=by omega
      rcases hcase with rfl|rfl|rfl|rfl|rfl|rfl|rfl|rfl|rfl|rfl
      ·have hni:l.getD 0 false=false:=by simpa[Array.getD,hsz] using hno
       have hnl:l.getD 9 false=false:=by
        cases h:l.getD 9 false
        ·rfl
        ·have h0:=hcl 9 _ rfl h ⟨0,.data⟩ (by simp) rfl
         exact absurd h0 (by rw[hni];decide)
       have hb:=hbel hnl
       refine wpOp_step rfl fun K hK=>?_
       go_simp
       exact hK _ _ ⟨by simp[hsz],fun h=>hbel ((getD_set_ne _ (by decide)).symm.trans h),_,_,_,_,_,_,_,_,_,_,rfl,fun _=>rfl,setN (by decide) e1,setN (by decide) e2,setN (by decide) e3,fun h h'=>e4 ((getD_set_ne _ (by decide)).symm.trans h) ((getD_set_ne _ (by decide)).symm.trans h'),setN (by decide) e5,setN (by decide) e6,setN (by decide) e7,setN (by decide) e8,setN (by decide) e9⟩
      ·have hni:l.getD 1 false=false:=by simpa[Array.getD,hsz] using hno
       have hnl:l.getD 9 false=false:=by
        cases h:l.getD 9 false
        ·rfl
        ·have h0:=hcl 9 _ rfl h ⟨4,.data⟩ (by simp) rfl
         have h1:=hcl 4 _ rfl h0 ⟨1,.data⟩ (by simp) rfl
         exact absurd h1 (by rw[hni];decide)
       have hb:=hbel hnl
       refine wpOp_step rfl fun K hK=>?_
       go_simp
       exact hK _ _ ⟨by simp[hsz],fun h=>hbel ((getD_set_ne _ (by decide)).symm.trans h),_,_,_,_,_,_,_,_,_,_,rfl,setN (by decide) e0,fun _=>rfl,setN (by decide) e2,setN (by decide) e3,fun h h'=>e4 ((getD_set_ne _ (by decide)).symm.trans h) ((getD_set_ne _ (by decide)).symm.trans h'),setN (by decide) e5,setN (by decide) e6,setN (by decide) e7,setN (by decide) e8,setN (by decide) e9⟩
      ·have hni:l.getD 2 false=false:=by simpa[Array.getD,hsz] using hno
       have hnl:l.getD 9 false=false:=by
        cases h:l.getD 9 false
        ·rfl
        ·have h0:=hcl 9 _ rfl h ⟨4,.data⟩ (by simp) rfl
         have h1:=hcl 4 _ rfl h0 ⟨3,.data⟩ (by simp) rfl
         have h2:=hcl 3 _ rfl h1 ⟨2,.data⟩ (by simp) rfl
         exact absurd h2 (by rw[hni];decide)
       have hb:=hbel hnl
       refine wpOp_step rfl fun K hK=>?_
       go_simp
       exact hK _ _ ⟨by simp[hsz],fun h=>hbel ((getD_set_ne _ (by decide)).symm.trans h),_,_,_,_,_,_,_,_,_,_,rfl,setN (by decide) e0,setN (by decide) e1,fun _=>rfl,setN (by decide) e3,fun h h'=>e4 ((getD_set_ne _ (by decide)).symm.trans h) ((getD_set_ne _ (by decide)).symm.trans h'),setN (by decide) e5,setN (by decide) e6,setN (by decide) e7,setN (by decide) e8,setN (by decide) e9⟩
      ·have hni:l.getD 3 false=false:=by simpa[Array.getD,hsz] using hno
       have hnl:l.getD 9 false=false:=by
        cases h:l.getD 9 false
        ·rfl
        ·have h0:=hcl 9 _ rfl h ⟨4,.data⟩ (by simp) rfl
         have h1:=hcl 4 _ rfl h0 ⟨3,.data⟩ (by simp) rfl
         exact absurd h1 (by rw[hni];decide)
       obtain rfl:=e2 (haft _ rfl ⟨2,.data⟩ (by simp) rfl)
       have hb:=hbel hnl
       refine wpOp_step rfl fun K hK=>?_
       go_simp
       refine (unhide HIT w1 hb).mono ?_
       rintro e wn ⟨rfl,hb2⟩
       show K _ _
       exact hK _ _ ⟨by simp[hsz],fun _=>hb.trans (hb2.mono hb.size),_,_,_,_,_,_,_,_,_,_,rfl,setN (by decide) e0,setN (by decide) e1,setN (by decide) e2,fun _=>rfl,fun h h'=>(fun hb2 ⟨a,h⟩=>⟨a,h.move fun k hk hkl=>⟨hb2.block k hkl,hk⟩⟩) hb2 (e4 ((getD_set_ne _ (by decide)).symm.trans h) ((getD_set_ne _ (by decide)).symm.trans h')),setN (by decide) e5,setN (by decide) e6,setN (by decide) e7,setN (by decide) e8,fun h=>absurd ((getD_set_ne _ (by decide)).symm.trans h) (by rw[hnl];decide)⟩
      ·have hni:l.getD 4 false=false:=by simpa[Array.getD,hsz] using hno
       have hnl:l.getD 9 false=false:=by
        cases h:l.getD 9 false
        ·rfl
        ·have h0:=hcl 9 _ rfl h ⟨4,.data⟩ (by simp) rfl
         exact absurd h0 (by rw[hni];decide)
       obtain rfl:=e1 (haft _ rfl ⟨1,.data⟩ (by simp) rfl)
       obtain rfl:=e3 (haft _ rfl ⟨3,.data⟩ (by simp) rfl)
       have hb:=hbel hnl
       refine wpOp_step rfl fun K hK=>?_
       go_simp
       refine (unhide HTO w1 hb).mono ?_
       rintro e wn ⟨g',cap',rfl,hg',htk,hb2⟩
       show K _ _
       exact hK _ _ ⟨by simp[hsz],fun _=>hb.trans (hb2.mono hb.size),_,_,_,_,_,_,_,_,_,_,rfl,setN (by decide) e0,setN (by decide) e1,setN (by decide) e2,setN (by decide) e3,fun _=>fun _=>⟨⟨_,_,_,rfl⟩,htk.move fun k hk _=>⟨rfl,Nat.le_trans hb.size hk⟩⟩,setN (by decide) e5,setN (by decide) e6,setN (by decide) e7,setN (by decide) e8,fun h=>absurd ((getD_set_ne _ (by decide)).symm.trans h) (by rw[hnl];decide)⟩
      ·have hni:l.getD 5 false=false:=by simpa[Array.getD,hsz] using hno
       have hnl:l.getD 9 false=false:=by
        cases h:l.getD 9 false
        ·rfl
        ·have h0:=hcl 9 _ rfl h ⟨8,.data⟩ (by simp) rfl
         have h1:=hcl 8 _ rfl h0 ⟨7,.data⟩ (by simp) rfl
         have h2:=hcl 7 _ rfl h1 ⟨5,.data⟩ (by simp) rfl
         exact absurd h2 (by rw[hni];decide)
       have hb:=hbel hnl
       refine wpOp_step rfl fun K hK=>?_
       go_simp
       exact hK _ _ ⟨by simp[hsz],fun h=>hbel ((getD_set_ne _ (by decide)).symm.trans h),_,_,_,_,_,_,_,_,_,_,rfl,setN (by decide) e0,setN (by decide) e1,setN (by decide) e2,setN (by decide) e3,fun h h'=>e4 ((getD_set_ne _ (by decide)).symm.trans h) ((getD_set_ne _ (by decide)).symm.trans h'),fun _=>rfl,setN (by decide) e6,setN (by decide) e7,setN (by decide) e8,setN (by decide) e9⟩
      ·have hni:l.getD 6 false=false:=by simpa[Array.getD,hsz] using hno
       have hnl:l.getD 9 false=false:=by
        cases h:l.getD 9 false
        ·rfl
        ·have h0:=hcl 9 _ rfl h ⟨8,.data⟩ (by simp) rfl
         have h1:=hcl 8 _ rfl h0 ⟨7,.data⟩ (by simp) rfl
         have h2:=hcl 7 _ rfl h1 ⟨6,.data⟩ (by simp) rfl
         exact absurd h2 (by rw[hni];decide)
       have hb:=hbel hnl
       refine wpOp_step rfl fun K hK=>?_
       go_simp
       exact hK _ _ ⟨by simp[hsz],fun h=>hbel ((getD_set_ne _ (by decide)).symm.trans h),_,_,_,_,_,_,_,_,_,_,rfl,setN (by decide) e0,setN (by decide) e1,setN (by decide) e2,setN (by decide) e3,fun h h'=>e4 ((getD_set_ne _ (by decide)).symm.trans h) ((getD_set_ne _ (by decide)).symm.trans h'),setN (by decide) e5,fun _=>rfl,setN (by decide) e7,setN (by decide) e8,setN (by decide) e9⟩
      ·have hni:l.getD 7 false=false:=by simpa[Array.getD,hsz] using hno
       have hnl:l.getD 9 false=false:=by
        cases h:l.getD 9 false
        ·rfl
        ·have h0:=hcl 9 _ rfl h ⟨8,.data⟩ (by simp) rfl
         have h1:=hcl 8 _ rfl h0 ⟨7,.data⟩ (by simp) rfl
         exact absurd h1 (by rw[hni];decide)
       obtain rfl:=e5 (haft _ rfl ⟨5,.data⟩ (by simp) rfl)
       obtain rfl:=e6 (haft _ rfl ⟨6,.data⟩ (by simp) rfl)
       have hb:=hbel hnl
       refine wpOp_step rfl fun K hK=>?_
       go_simp
       exact hK _ _ ⟨by simp[hsz],fun h=>hbel ((getD_set_ne _ (by decide)).symm.trans h),_,_,_,_,_,_,_,_,_,_,rfl,setN (by decide) e0,setN (by decide) e1,setN (by decide) e2,setN (by decide) e3,fun h h'=>e4 ((getD_set_ne _ (by decide)).symm.trans h) ((getD_set_ne _ (by decide)).symm.trans h'),setN (by decide) e5,setN (by decide) e6,fun _=>rfl,setN (by decide) e8,setN (by decide) e9⟩
      ·have hni:l.getD 8 false=false:=by simpa[Array.getD,hsz] using hno
       have hnl:l.getD 9 false=false:=by
        cases h:l.getD 9 false
        ·rfl
        ·have h0:=hcl 9 _ rfl h ⟨8,.data⟩ (by simp) rfl
         exact absurd h0 (by rw[hni];decide)
       obtain rfl:=e7 (haft _ rfl ⟨7,.data⟩ (by simp) rfl)
       have hb:=hbel hnl
       have z:=(hb.cell (p:=⟨g2,q,none⟩) hg2w).trans cq
       refine wpOp_step rfl fun K hK=>?_
       go_simp
       exact hK _ _ ⟨by simp[hsz],fun h=>hbel ((getD_set_ne _ (by decide)).symm.trans h),_,_,_,_,_,_,_,_,_,_,rfl,setN (by decide) e0,setN (by decide) e1,setN (by decide) e2,setN (by decide) e3,fun h h'=>e4 ((getD_set_ne _ (by decide)).symm.trans h) ((getD_set_ne _ (by decide)).symm.trans h'),setN (by decide) e5,setN (by decide) e6,setN (by decide) e7,fun _=>rfl,setN (by decide) e9⟩
      ·have hni:l.getD 9 false=false:=by simpa[Array.getD,hsz] using hno
       have hnl:=hni
       obtain rfl:=e0 (haft _ rfl ⟨0,.data⟩ (by simp) rfl)
       have q4:=e4 (haft _ rfl ⟨4,.data⟩ (by simp) rfl) hnl
       obtain rfl:=e8 (haft _ rfl ⟨8,.data⟩ (by simp) rfl)
       have hb:=hbel hnl
       obtain⟨⟨xa,xl,xc,rfl⟩,htk⟩:=q4
       refine wpOp_step rfl fun K hK=>?_
       go_simp
       refine (unhide HADD w1 hb xa xl xc htk).mono ?_
       rintro e wn ⟨rfl,hM⟩
       show K _ _
       exact hK _ _ ⟨by simp[hsz],(fun h=>by rw[getT hsz 9 (by decide)] at h;cases h),_,_,_,_,_,_,_,_,_,_,rfl,(setN (by decide) e0),(setN (by decide) e1),(setN (by decide) e2),(setN (by decide) e3),(fun _ h'=>by rw[getT hsz 9 (by decide)] at h';cases h'),(setN (by decide) e5),(setN (by decide) e6),(setN (by decide) e7),(setN (by decide) e8),(fun _=>hM)⟩
    ·obtain rfl:t=ms.length:=by omega
     have hlt3:¬ ((ms.length:Nat):Int)<((ms.length:Nat):Int):=by omega
     have HFIN:=hide (show Q (.returned (.tuple #[])) wr from by
      obtain⟨M',m2,m3,_⟩:=(unhide HD).ex
      rw[unhide HQ]
      exact⟨rfl,M',by rw[unhide HP];rw[List.take_length] at m2;exact m2.less fun b hb=>Or.inl hb,(unhide HX1).trans m3⟩)
     go_wp2_with (fail)
     exact bodyPost_end (results_none rfl _ _ _) rfl (unhide HFIN)
end

section
open Go.RowKit Go.Maps
namespace Sp
theorem diffO_app (m:List By→V→V→List Opn) (s:List By) (xs bs:List (Lit×V)):∀l k:List By,diffO m s xs bs (l++k)=diffO m s xs bs l++diffO m s xs bs k
 | [],k=>rfl
 | a::l,k=>by rw[List.cons_append,diffO,diffO,diffO_app m s xs bs l k,List.append_assoc]
theorem ukeys_len (xs bs:List (Lit×V)):(ukeys xs bs).length≤xs.length+bs.length:=by
 unfold ukeys
 rw[List.length_map]
 have h:∀ (bs xs:List (Lit×V)),(bs.foldl (fun (l:List (Lit×V)) q=>mput q.1 .nil l) xs).length≤xs.length+bs.length:=fun bs=>by
  induction bs with
  | nil=>intro xs;simp
  | cons q r ih =>
   intro xs
   rw[List.foldl_cons,List.length_cons]
   have h1:=ih (mput q.1 .nil xs)
   have h2:=mput_len q.1 (.nil:V) xs
   omega
 exact h bs xs
theorem obj_len_sz (f:Nat) (es:List (Lit×V)):es.length≤sz (f+1) (.map es):=by
 show es.length≤2+(es.map fun p=>(quoT (strOf p.1)).length+2+sz f p.2).sum
 induction es with
 | nil=>exact Nat.zero_le _
 | cons p r ih =>
  simp only[List.map_cons,List.sum_cons,List.length_cons] at *
  omega
end Sp
def ValsOk (d x n:Int) (f:Nat):Prop:=∀ (lv:Int) (F F':Nat→Prop) (w:World) (Mk:Nat) (M:Nat→Prop) (av bv:Value) (a b:Sp.V) (s:List Sp.By) (pa:Option Addr) (pl pc:Nat) (ops:List Sp.Opn),MkD w Mk n M ops→Laid w→(∀k,k<NG→M k)→(∀k,F k→M k)→(∀k,F' k→M k)→Rep f F w av a→Rep f F' w bv b→Sp.gd d x f lv a→Sp.gd d x f lv b→s.length+Sp.sz f a≤400000→Sp.sz f b≤400000→(ops.length:Int)+1000000*(d+1-lv)≤400000000→TokG w M (.slice pa pl pc) s→(s=[] → ∃c,(Value.slice pa pl pc) = .slice none 0 c) →
  Calls Tryz.prog 123 #[.pointer (some ⟨Mk,0,none⟩),.slice pa pl pc,av,bv] w (DfEnd Mk n M ops (Sp.diff n f s a b) w)
theorem values_any {d x n:Int} (hn2:n≤2000):∀ (f:Nat),f≤top→ValsOk d x n f
 | 0,_=>fun _ _ _ _ _ _ _ _ _ _ _ _ _ _ _ _ _ _ _ _ h=>h.elim
 | f+1,hf=>by
  intro lv F F' w Mk M av bv a b s pa pl pc ops h hT hNG hF hF' ha hb ga gb hsa hsb hops hp hnil
  have hlv:lv≤d:=ga.1
  have hops2:ops.length≤400000000:=by omega
  refine mValues_any h ha hb hf hF' hp (by omega) (fun xs z e=>?_) (fun ys z e=>?_) ?_ ?_
  ·subst e
   have:=Sp.arr_len_sz f xs z
   omega
  ·subst e
   have:=Sp.arr_len_sz f ys z
   omega
  ·intro xs ys m1 n1 D1 m2 n2 D2 e1 e2 k1 k2 o1 p1 o2 p2 w1 hb1
   subst e1 e2
   obtain⟨h1,hx1⟩:=h.bel hb1
   have o1':=map_kept o1 (hb1.block m1 (map_lt o1))
   have o2':=map_kept o2 (hb1.block m2 (map_lt o2))
   have p1':=p1.mono fun _ _ hr=>hr.bel hb1
   have p2':=p2.mono fun _ _ hr=>hr.bel hb1
   have g1:=(Sp.gd_map ga).2
   have g2:=(Sp.gd_map gb).2
   have hmem:∀k,(∀c,(Lit.string k,c)∈xs→k.length+1+Sp.sz f c≤Sp.sz (f+1) (.map xs)) ∧ ∀c,(Lit.string k,c)∈ys→k.length+1+Sp.sz f c≤Sp.sz (f+1) (.map ys):=fun k=>by
    have hq:=Sp.quoT_ge k
    refine⟨fun c hm=>?_,fun c hm=>?_⟩
    ·have h3:(Sp.quoT k).length+2+Sp.sz f c≤Sp.sz (f+1) (.map xs):=Sp.sz_mem (f:=f) hm
     omega
    ·have h3:(Sp.quoT k).length+2+Sp.sz f c≤Sp.sz (f+1) (.map ys):=Sp.sz_mem (f:=f) hm
     omega
   have hlx:=Sp.obj_len_sz f xs
   have hly:=Sp.obj_len_sz f ys
   have hdl:∀t,(ops++Sp.diffO (Sp.diff n f) s xs ys ((Sp.ukeys xs ys).take t)).length≤ops.length+Sp.sz (f+1) (.map xs)+Sp.sz (f+1) (.map ys):=fun t=>by
    have h2:(Sp.diffO (Sp.diff n f) s xs ys (Sp.ukeys xs ys)).length≤Sp.sz (f+1) (.map xs)+Sp.sz (f+1) (.map ys):=Sp.diff_len (n:=n) (s:=s) ga gb
    have h3:=Sp.diffO_app (Sp.diff n f) s xs ys ((Sp.ukeys xs ys).take t) ((Sp.ukeys xs ys).drop t)
    rw[List.take_append_drop] at h3
    rw[h3,List.length_append] at h2
    rw[List.length_append]
    omega
   refine mObjects_any h1 (by omega) hF hF' (hF _ k1) (hF' _ k2) o1' p1' o2' p2' (hp.move fun k hk hkl=>⟨hb1.block k hkl,hk⟩) (by omega) hnil (Sp.ukeys xs ys) (fun k hk=>?_) ?_ (fun t=>by have:=hdl t;omega) (keysOf_any o1' p1' o2' p2' g1.skey g2.skey (by omega) (by omega)) ?_
   ·rcases (Sp.ukeys_mem g1.skey g2.skey).1 hk with⟨c,hm⟩|⟨c,hm⟩
    ·have:=(hmem k).1 c hm;omega
    ·have:=(hmem k).2 c hm;omega
   ·have:=Sp.ukeys_len xs ys
    omega
   ·rintro k hk u y hu hy M1 wr xv yv qa ql qc ops' ⟨t,rfl⟩ hm hx hrx hry htk
    have hmu:=Sp.get_mem g1.skey hu
    have hmy:=Sp.get_mem g2.skey hy
    have q1:=(hmem k).1 u hmu
    have q2:=(hmem k).2 y hmy
    have q3:=hdl t
    have q4:(Sp.diffO (Sp.diff n f) s xs ys ((Sp.ukeys xs ys).take t)).length≤1000000:=by rw[List.length_append] at q3;omega
    refine values_any hn2 f (by omega) (lv+1) _ _ _ _ _ _ _ _ _ _ _ _ _ _ hm ?_ (fun j hj=>(hx.kept j (hNG j hj)).1) (fun j hj=>(hx.kept j (hF j hj)).1) (fun j hj=>(hx.kept j (hF' j hj)).1) hrx hry (g1.2 _ hmu).2 (g2.2 _ hmy).2 ?_ (by omega) ?_ htk (fun e=>by simp at e)
    ·exact (hT.below (hb1.mono hT.ng)).below ⟨hx.os,hx.tape,hx.output,hx.size,fun j hj=>(hx.kept j (hNG j hj)).2⟩
    ·rw[List.length_append,List.length_singleton];omega
    ·omega
  ·intro xs ys sl1 sl2 ps1 ps2 e1 e2 hcc o1 a1 o2 k2 a2 w1 hb1
   subst e1 e2
   obtain⟨h1,hx1⟩:=h.bel hb1
   refine mArrays_any (F:=F) (F':=F') h1 (hT.below (hb1.mono hT.ng)) hNG (by omega) hF' ?_ (by omega) (ownsN_kept o1 fun g hg=>hb1.block g (ownsN_lt o1 g hg).1) (a1.mono fun _ _ hr=>hr.bel hb1) (ownsN_kept o2 fun g hg=>hb1.block g (ownsN_lt o2 g hg).1) k2 (a2.mono fun _ _ hr=>hr.bel hb1) (hp.move fun k hk hkl=>⟨hb1.block k hkl,hk⟩) (by omega) hnil
   have h5:(((xs.length+1)*(ys.length+1):Nat):Int)≤n:=by
    rw[Int.natCast_mul,Int.natCast_add,Int.natCast_add];exact hcc
   omega
theorem values_ok:ValuesOk:=by
 intro d x n F F' w Mk M av bv a b hn2 hT hNG hM hF hF' ha hb ga gb hd ha2 hb2
 exact values_any hn2 top (Nat.le_refl _) _ _ _ _ _ _ _ _ _ _ [] _ _ _ _ hM hT hNG hF hF' ha hb ga gb (by simp;omega) (by omega) (by simp;omega) (Or.inl ⟨rfl,none,0,rfl,by unfold maxLen;omega⟩) (fun _=>⟨0,rfl⟩)
theorem diff_ok:DiffOk:=diff_ok_of values_ok
end

section
set_option maxRecDepth 100000
set_option maxHeartbeats 4000000
open Go.RowKit
def mergingCells:Array Value:=#[.int .i64 1,.string ⟨#[123,34,97,34,58,49,125]⟩,.string ⟨#[]⟩,.int .i64 6,.string ⟨#[123,34,98,34,58,50,125]⟩,.string ⟨#[]⟩,.int .i64 2,.string ⟨#[]⟩,.string ⟨#[]⟩,.int .i64 8,.string ⟨#[123,125]⟩,.string ⟨#[]⟩,.int .i64 9,.string ⟨#[123,34,99,34,58,110,117,108,108,125]⟩,.string ⟨#[]⟩,.int .i64 9,.string ⟨#[123,125]⟩,.string ⟨#[]⟩]
theorem scr_merging {w:World} {g:Nat} (h:w.heap[g]? = some (.cells mergingCells 49 (0,0))):Scr w g 0 Sp.ms:=by
 intro i hi
 have hc:∀j,w.cell? ⟨g,j,none⟩=mergingCells[j]?:=fun j=>by simp[World.cell?,h]
 rw[hc,hc,hc]
 match i,hi with
 | 0,_=>exact⟨rfl,rfl,rfl⟩
 | 1,_=>exact⟨rfl,rfl,rfl⟩
 | 2,_=>exact⟨rfl,rfl,rfl⟩
 | 3,_=>exact⟨rfl,rfl,rfl⟩
 | 4,_=>exact⟨rfl,rfl,rfl⟩
 | 5,_=>exact⟨rfl,rfl,rfl⟩
theorem plain_merging:Plain Sp.ms:=by
 intro o ho
 simp only[Sp.ms,List.mem_cons,List.not_mem_nil,or_false] at ho
 rcases ho with rfl|rfl|rfl|rfl|rfl|rfl
 ·exact Or.inl (Or.inl (by decide))
 ·exact Or.inr (Or.inr (Or.inr (Or.inl ⟨rfl,merge_ok⟩)))
 ·exact Or.inl (Or.inl (by decide))
 ·exact Or.inr (Or.inr (Or.inr (Or.inr (Or.inr (Or.inl ⟨rfl,diff_ok⟩)))))
 ·exact Or.inr (Or.inr (Or.inr (Or.inr (Or.inr (Or.inr ⟨rfl,mergeDiff_ok⟩)))))
 ·exact Or.inr (Or.inr (Or.inr (Or.inr (Or.inr (Or.inr ⟨rfl,mergeDiff_ok⟩)))))
theorem merging_any (w:World) (hT:Laid w):Calls Tryz.prog 27 #[] w fun x w'=>x = .returned (.bool true)∧Below w.heap.size w w':=by
 have HT:=hide hT
 have hng:=hT.ng
 clear hT
 go_enter Tryz.func27,Tryz.ntmps27
 go_wp2_with (fail)
 refine (kstep_any 1 _ _ _).mono ?_
 rintro x w1 ⟨rfl,hb1⟩
 go_wp2_with (fail)
 refine (kstep_any 6 _ _ _).mono ?_
 rintro x w2 ⟨rfl,hb2⟩
 go_wp2_with (fail)
 refine (kstep_any 2 _ _ _).mono ?_
 rintro x w3 ⟨rfl,hb3⟩
 go_wp2_with (fail)
 refine (kstep_any 8 _ _ _).mono ?_
 rintro x w4 ⟨rfl,hb4⟩
 go_wp2_with (fail)
 refine (kstep_any 9 _ _ _).mono ?_
 rintro x w5 ⟨rfl,hb5⟩
 go_wp2_with (fail)
 refine (kstep_any 9 _ _ _).mono ?_
 rintro x w6 ⟨rfl,hb6⟩
 have g1:Below w.heap.size w w1:=hb1
 have g2:Below w.heap.size w w2:=g1.trans (hb2.mono g1.size)
 have g3:Below w.heap.size w w3:=g2.trans (hb3.mono g2.size)
 have g4:Below w.heap.size w w4:=g3.trans (hb4.mono g3.size)
 have g5:Below w.heap.size w w5:=g4.trans (hb5.mono g4.size)
 have g6:Below w.heap.size w w6:=g5.trans (hb6.mono g5.size)
 have HB4:=hide g6
 have hs4:=g6.size
 clear hb1 g1 hb2 g2 hb3 g3 hb4 g4 hb5 g5 hb6 g6
 go_wp2_with (fail)
 have hb5:Below w.heap.size w (w6.alloc (.cells mergingCells 49)):=(unhide HB4).alloc hs4 _
 refine (Run_some (d:=3) (e:=9) (n:=100) (sb:=w6.heap.size) (so:=0) (m:=6) (cap:=6) (l:=Sp.ms) (scr_merging (heap_new w6 _ _ rfl)) plain_merging rfl (by omega) (by omega) (by omega) (by simp) ((unhide HT).below (hb5.mono hng))).mono ?_
 rintro x v0 ⟨A,cs,rfl,hA,hrow,hans,hb6⟩
 rw[run_ms] at hans
 obtain⟨hsz,hc⟩:=hans
 have hcell:∀j,v0.cell? ⟨A,j,none⟩=cs[j]?:=fun j=>by simp[World.cell?,hrow]
 have q0:=hc 0 (by simp)
 have q1:=hc 1 (by simp)
 have q2:=hc 2 (by simp)
 have q3:=hc 3 (by simp)
 have q4:=hc 4 (by simp)
 have q5:=hc 5 (by simp)
 simp only[List.getElem_cons_zero,List.getElem_cons_succ] at q0 q1 q2 q3 q4 q5
 have c0_1_0:=(hcell 3).trans q1.1
 have c0_1_1:=(hcell 4).trans q1.2.1
 have c0_1_2:=(hcell 5).trans q1.2.2
 have c0_2_0:=(hcell 6).trans q2.1
 have c0_2_1:=(hcell 7).trans q2.2.1
 have c0_2_2:=(hcell 8).trans q2.2.2
 have c0_3_0:=(hcell 9).trans q3.1
 have c0_4_0:=(hcell 12).trans q4.1
 have c0_5_0:=(hcell 15).trans q5.1
 have HB:=hide (hb5.trans (hb6.mono hb5.size))
 have hA0:A<v0.heap.size:=(Array.getElem?_eq_some_iff.1 hrow).1
 clear q0 q1 q2 q3 q4 q5 hc hcell hrow hsz hb5 hb6
 go_wp2_with (fail)
 refine (told_yes [] v0).mono ?_
 rintro x v1 ⟨rfl,hb7⟩
 have c1_2_0:=(hb7.cell (p:=⟨A,6,none⟩) hA0).trans c0_2_0
 have c1_2_1:=(hb7.cell (p:=⟨A,7,none⟩) hA0).trans c0_2_1
 have c1_2_2:=(hb7.cell (p:=⟨A,8,none⟩) hA0).trans c0_2_2
 have c1_3_0:=(hb7.cell (p:=⟨A,9,none⟩) hA0).trans c0_3_0
 have c1_4_0:=(hb7.cell (p:=⟨A,12,none⟩) hA0).trans c0_4_0
 have c1_5_0:=(hb7.cell (p:=⟨A,15,none⟩) hA0).trans c0_5_0
 have HB:=hide ((unhide HB).trans (hb7.mono (unhide HB).size))
 have hA1:A<v1.heap.size:=Nat.lt_of_lt_of_le hA0 hb7.size
 clear c0_1_0 c0_1_1 c0_1_2 c0_2_0 c0_2_1 c0_2_2 c0_3_0 c0_4_0 c0_5_0 hb7
 go_wp2_with (fail)
 refine (told_yes Sp.m4 v1).mono ?_
 rintro x v2 ⟨rfl,hb7⟩
 have c2_3_0:=(hb7.cell (p:=⟨A,9,none⟩) hA1).trans c1_3_0
 have c2_4_0:=(hb7.cell (p:=⟨A,12,none⟩) hA1).trans c1_4_0
 have c2_5_0:=(hb7.cell (p:=⟨A,15,none⟩) hA1).trans c1_5_0
 have HB:=hide ((unhide HB).trans (hb7.mono (unhide HB).size))
 have hA2:A<v2.heap.size:=Nat.lt_of_lt_of_le hA1 hb7.size
 clear c1_2_0 c1_2_1 c1_2_2 c1_3_0 c1_4_0 c1_5_0 hb7
 go_wp2_with (fail)
 go_ret
 exact⟨rfl,unhide HB⟩
end

section
set_option maxRecDepth 100000
set_option maxHeartbeats 8000000
open Go.RowKit Go.Maps
theorem fine_merge (s t:Sp.By):Fine (6,s,t):=Or.inr (Or.inr (Or.inr (Or.inl ⟨rfl,merge_ok⟩)))
def onsCells (t p:ByteArray):Array Value:=#[.int .i64 1,.string t,.string ⟨#[]⟩,.int .i64 6,.string p,.string ⟨#[]⟩,.int .i64 2,.string ⟨#[]⟩,.string ⟨#[]⟩,.int .i64 6,.string p,.string ⟨#[]⟩,.int .i64 2,.string ⟨#[]⟩,.string ⟨#[]⟩]
theorem scr_ons {w:World} {g:Nat} {t p:ByteArray} (h:w.heap[g]? = some (.cells (onsCells t p) 49 (0,0))):Scr w g 0 (Sp.ons t.data.toList p.data.toList):=by
 intro i hi
 have hc:∀j,w.cell? ⟨g,j,none⟩=(onsCells t p)[j]?:=fun j=>by simp[World.cell?,h]
 rw[hc,hc,hc]
 match i,hi with
 | 0,_=>exact⟨rfl,by simp[onsCells,Sp.ons],rfl⟩
 | 1,_=>exact⟨rfl,by simp[onsCells,Sp.ons],rfl⟩
 | 2,_=>exact⟨rfl,rfl,rfl⟩
 | 3,_=>exact⟨rfl,by simp[onsCells,Sp.ons],rfl⟩
 | 4,_=>exact⟨rfl,rfl,rfl⟩
theorem plain_ons (t p:Sp.By):Plain (Sp.ons t p):=by
 intro o ho
 simp only[Sp.ons,List.mem_cons,List.not_mem_nil,or_false] at ho
 rcases ho with rfl|rfl|rfl|rfl|rfl
 ·exact Or.inl (Or.inl (show (1:Int)<3 by decide))
 ·exact fine_merge _ _
 ·exact Or.inl (Or.inl (show (2:Int)<3 by decide))
 ·exact fine_merge _ _
 ·exact Or.inl (Or.inl (show (2:Int)<3 by decide))
theorem Once_any {a:Int} (ha0:-9223372036854775808≤a) (ha1:a≤9223372036854775807) (t p:ByteArray) (w:World) (hT:Laid w) :
  Calls Tryz.prog 14 #[.int .i64 a,.string t,.string p] w fun x w'=>x = .returned (.bool true)∧Below w.heap.size w w':=by
 have HT:=hide hT
 have hng:=hT.ng
 clear hT
 go_enter Tryz.func14,Tryz.ntmps14
 go_wp2_with (fail)
 refine (merging_any w (unhide HT)).mono ?_
 rintro x w1 ⟨rfl,hb1⟩
 have HB1:=hide hb1
 clear hb1
 go_wp2_with (fail)
 refine (config_3 a 400 0 ha0 ha1 (by omega) (by omega) (by omega) (by omega) w1).mono ?_
 rintro x w2 ⟨⟨d,e,n,hc,rfl⟩,hb2⟩
 have HC:=hide hc
 have HB2:=hide ((unhide HB1).trans (hb2.mono (unhide HB1).size))
 clear hb2 hc
 go_upto_region 3 with (fail)
 obtain⟨wb,hwb⟩:∃wb,wb=w2.alloc (.cells #[.int .i64 d,.int .i64 e,.int .i64 n] 23):=⟨_,rfl⟩
 rw[← hwb]
 have hz:wb.heap[w2.heap.size]? = some (.cells #[.int .i64 d,.int .i64 e,.int .i64 n] 23 (0,0)):=by rw[hwb];exact heap_alloc_new w2 _
 have hzl:w2.heap.size<wb.heap.size:=(Array.getElem?_eq_some_iff.1 hz).1
 have y0:wb.cell? ⟨w2.heap.size,0,none⟩=some (.int .i64 d):=by simp[World.cell?,hz]
 have y1:wb.cell? ⟨w2.heap.size,1,none⟩=some (.int .i64 e):=by simp[World.cell?,hz]
 have y2:wb.cell? ⟨w2.heap.size,2,none⟩=some (.int .i64 n):=by simp[World.cell?,hz]
 have hbw:Below w.heap.size w wb:=by rw[hwb];exact (unhide HB2).alloc (unhide HB2).size _
 have HRUN:∀ (w0:World) (g:Nat),Below wb.heap.size wb w0→w0.heap[g]? = some (.cells (onsCells t p) 49 (0,0))→Calls Tryz.prog 24 #[.agg #[.int .i64 d,.int .i64 e,.int .i64 n],.slice (some ⟨g,0,none⟩) 5 5] w0 fun x w'=>RunEnd 5 (Sp.run d e n none (Sp.ons t.data.toList p.data.toList)) w0 x w':=by
  intro w0 g h0 h1
  exact Run_some (d:=d) (e:=e) (n:=n) (l:=Sp.ons t.data.toList p.data.toList) (m:=5) (cap:=5) (scr_ons h1) (plain_ons _ _) rfl (by decide) (by decide) (by decide) (Array.getElem?_eq_some_iff.1 h1).1 ((unhide HT).below ((hbw.trans (h0.mono hbw.size)).mono hng))
 go_cut [9] (fun s9 wx=>∃A cs,s9 = .slice (some ⟨A,0,none⟩) 5 5∧wx.heap[A]? = some (.cells cs 46 (0,0))∧AnsC cs 5 (Sp.run d e n none (Sp.ons t.data.toList p.data.toList))∧Below wb.heap.size wb wx)
 case first =>
  refine wp_region_any (by kernel_rfl) ?_
  refine wpAny_low 9 10 12 (fun L x y=>{ tmps:=#[.int .i64 a,.string t,.string p,undef,undef,undef,.bool false,.bool true,.pointer (some ⟨w2.heap.size,0,none⟩),cond (L 11) (y) undef,undef,undef,.bool true,.int .i64 a,.agg #[.int .i64 d,.int .i64 e,.int .i64 n],cond (L 0) (.agg #[.int .i64 d,.int .i64 e,.int .i64 n]) undef,cond (L 1) (.string t) undef,cond (L 2) (.agg #[.int .i64 1,.string t,.string ⟨#[]⟩]) undef,cond (L 3) (.string p) undef,cond (L 4) (.agg #[.int .i64 6,.string p,.string ⟨#[]⟩]) undef,cond (L 5) (.agg #[.int .i64 2,.string ⟨#[]⟩,.string ⟨#[]⟩]) undef,cond (L 6) (.string p) undef,cond (L 7) (.agg #[.int .i64 6,.string p,.string ⟨#[]⟩]) undef,cond (L 8) (.agg #[.int .i64 2,.string ⟨#[]⟩,.string ⟨#[]⟩]) undef,cond (L 9) (x) undef,cond (L 10) (y) undef,undef,undef,undef,undef,undef,undef,undef,undef,undef,undef,undef,undef,undef,undef,undef,undef,undef,undef,undef,undef,undef,undef,undef,undef,undef,undef,undef,undef,undef,undef,undef,undef,undef,undef,undef,undef,undef,undef,undef,undef,undef,undef,undef,undef,undef,undef,undef,undef,undef,undef,undef,undef,undef,undef,undef,undef,undef,undef,undef,undef,undef],defers:=[] }) (fun x w=>∃g,x = .slice (some ⟨g,0,none⟩) 5 5∧w.heap[g]? = some (.cells (onsCells t p) 49 (0,0))) (fun y w=>∃A cs,y = .slice (some ⟨A,0,none⟩) 5 5∧w.heap[A]? = some (.cells cs 46 (0,0))∧AnsC cs 5 (Sp.run d e n none (Sp.ons t.data.toList p.data.toList))∧Below wb.heap.size wb w) wb (by rfl) (by decide) (by kernel_rfl) ?hR ?hp ?hb ?hz ?he undef undef _ ⟨rfl,rfl,rfl,Nat.le_refl _,fun _ _=>rfl⟩
  case hR =>
   exact fun x w0 w1 ⟨g,h1,h2⟩ hb=>⟨g,h1,(hb.block g (Array.getElem?_eq_some_iff.1 h2).1).trans h2⟩
  case hp =>
   intro L x y w1 i o hi hib hiz ⟨ho,hno,haft,hcl⟩ hI K hK
   have hcase:i=0∨i=1∨i=2∨i=3∨i=4∨i=5∨i=6∨i=7∨i=8∨i=11:=by omega
   rcases hcase with rfl|rfl|rfl|rfl|rfl|rfl|rfl|rfl|rfl|rfl
   all_goals obtain rfl:=Option.some.inj ho
   ·have nl:L 10=false:=by
     cases h:L 10
     ·rfl
     ·have h0:=hcl 10 _ rfl h ⟨0,.data⟩ (by simp) rfl
      exact absurd (h0.symm.trans hno) (by decide)
    have hb:=(hI.1 nl).1
    have z0:=(hb.cell (p:=⟨w2.heap.size,0,none⟩) hzl).trans y0
    have z1:=(hb.cell (p:=⟨w2.heap.size,1,none⟩) hzl).trans y1
    have z2:=(hb.cell (p:=⟨w2.heap.size,2,none⟩) hzl).trans y2
    refine wpOp_step rfl fun K' hK'=>?_
    simp (decide:=true) only[upd,hno,nl,cond_true,cond_false,if_true,if_false] at hK ⊢
    go_simp
    exact hK' _ _ (hK _ (fun _=>Below.refl _ _) fun _=>rfl)
   ·refine wpOp_step rfl fun K' hK'=>?_
    simp (decide:=true) only[upd,hno,cond_true,cond_false,if_true,if_false] at hK ⊢
    go_simp
    exact hK' _ _ (hK _ (fun _=>Below.refl _ _) fun _=>rfl)
   ·have a1:=haft ⟨1,.data⟩ (by simp) rfl
    have nl:L 10=false:=by
     cases h:L 10
     ·rfl
     ·have h0:=hcl 10 _ rfl h ⟨9,.data⟩ (by simp) rfl
      have h1:=hcl 9 _ rfl h0 ⟨2,.data⟩ (by simp) rfl
      exact absurd (h1.symm.trans hno) (by decide)
    have hb:=(hI.1 nl).1
    refine wpOp_step rfl fun K' hK'=>?_
    simp (decide:=true) only[upd,a1,hno,nl,cond_true,cond_false,if_true,if_false] at hK ⊢
    go_simp
    refine (kstep_any 1 t ⟨#[]⟩ w1).mono ?_
    rintro e wn ⟨rfl,hb2⟩
    show K' _ _
    exact hK' _ _ (hK _ (fun _=>hb2) fun h=>by first|exact h.elim|(rw[nl] at h;cases h))
   ·refine wpOp_step rfl fun K' hK'=>?_
    simp (decide:=true) only[upd,hno,cond_true,cond_false,if_true,if_false] at hK ⊢
    go_simp
    exact hK' _ _ (hK _ (fun _=>Below.refl _ _) fun _=>rfl)
   ·have a2:=haft ⟨2,.chain⟩ (by simp) rfl
    have a3:=haft ⟨3,.data⟩ (by simp) rfl
    have nl:L 10=false:=by
     cases h:L 10
     ·rfl
     ·have h0:=hcl 10 _ rfl h ⟨9,.data⟩ (by simp) rfl
      have h1:=hcl 9 _ rfl h0 ⟨4,.data⟩ (by simp) rfl
      exact absurd (h1.symm.trans hno) (by decide)
    have hb:=(hI.1 nl).1
    refine wpOp_step rfl fun K' hK'=>?_
    simp (decide:=true) only[upd,a2,a3,hno,nl,cond_true,cond_false,if_true,if_false] at hK ⊢
    go_simp
    refine (kstep_any 6 p ⟨#[]⟩ w1).mono ?_
    rintro e wn ⟨rfl,hb2⟩
    show K' _ _
    exact hK' _ _ (hK _ (fun _=>hb2) fun h=>by first|exact h.elim|(rw[nl] at h;cases h))
   ·have a4:=haft ⟨4,.chain⟩ (by simp) rfl
    have nl:L 10=false:=by
     cases h:L 10
     ·rfl
     ·have h0:=hcl 10 _ rfl h ⟨9,.data⟩ (by simp) rfl
      have h1:=hcl 9 _ rfl h0 ⟨5,.data⟩ (by simp) rfl
      exact absurd (h1.symm.trans hno) (by decide)
    have hb:=(hI.1 nl).1
    refine wpOp_step rfl fun K' hK'=>?_
    simp (decide:=true) only[upd,a4,hno,nl,cond_true,cond_false,if_true,if_false] at hK ⊢
    go_simp
    refine (kstep_any 2 ⟨#[]⟩ ⟨#[]⟩ w1).mono ?_
    rintro e wn ⟨rfl,hb2⟩
    show K' _ _
    exact hK' _ _ (hK _ (fun _=>hb2) fun h=>by first|exact h.elim|(rw[nl] at h;cases h))
   ·refine wpOp_step rfl fun K' hK'=>?_
    simp (decide:=true) only[upd,hno,cond_true,cond_false,if_true,if_false] at hK ⊢
    go_simp
    exact hK' _ _ (hK _ (fun _=>Below.refl _ _) fun _=>rfl)
   ·have a5:=haft ⟨5,.chain⟩ (by simp) rfl
    have a6:=haft ⟨6,.data⟩ (by simp) rfl
    have nl:L 10=false:=by
     cases h:L 10
     ·rfl
     ·have h0:=hcl 10 _ rfl h ⟨9,.data⟩ (by simp) rfl
      have h1:=hcl 9 _ rfl h0 ⟨7,.data⟩ (by simp) rfl
      exact absurd (h1.symm.trans hno) (by decide)
    have hb:=(hI.1 nl).1
    refine wpOp_step rfl fun K' hK'=>?_
    simp (decide:=true) only[upd,a5,a6,hno,nl,cond_true,cond_false,if_true,if_false] at hK ⊢
    go_simp
    refine (kstep_any 6 p ⟨#[]⟩ w1).mono ?_
    rintro e wn ⟨rfl,hb2⟩
    show K' _ _
    exact hK' _ _ (hK _ (fun _=>hb2) fun h=>by first|exact h.elim|(rw[nl] at h;cases h))
   ·have a7:=haft ⟨7,.chain⟩ (by simp) rfl
    have nl:L 10=false:=by
     cases h:L 10
     ·rfl
     ·have h0:=hcl 10 _ rfl h ⟨8,.chain⟩ (by simp) rfl
      exact absurd (h0.symm.trans hno) (by decide)
    have hb:=(hI.1 nl).1
    refine wpOp_step rfl fun K' hK'=>?_
    simp (decide:=true) only[upd,a7,hno,nl,cond_true,cond_false,if_true,if_false] at hK ⊢
    go_simp
    refine (kstep_any 2 ⟨#[]⟩ ⟨#[]⟩ w1).mono ?_
    rintro e wn ⟨rfl,hb2⟩
    show K' _ _
    exact hK' _ _ (hK _ (fun _=>hb2) fun h=>by first|exact h.elim|(rw[nl] at h;cases h))
   ·have a0:=haft ⟨0,.phase⟩ (by simp) rfl
    have a1:=haft ⟨1,.phase⟩ (by simp) rfl
    have a2:=haft ⟨2,.phase⟩ (by simp) rfl
    have a3:=haft ⟨3,.phase⟩ (by simp) rfl
    have a4:=haft ⟨4,.phase⟩ (by simp) rfl
    have a5:=haft ⟨5,.phase⟩ (by simp) rfl
    have a6:=haft ⟨6,.phase⟩ (by simp) rfl
    have a7:=haft ⟨7,.phase⟩ (by simp) rfl
    have a8:=haft ⟨8,.phase⟩ (by simp) rfl
    have a9:=haft ⟨9,.phase⟩ (by simp) rfl
    have a10:=haft ⟨10,.data⟩ (by simp) rfl
    refine wpOp_step rfl fun K' hK'=>?_
    simp (decide:=true) only[upd,a0,a1,a2,a3,a4,a5,a6,a7,a8,a9,a10,hno,cond_true,cond_false,if_true,if_false] at hK ⊢
    go_simp
    exact hK' _ _ (hK _ (fun _=>Below.refl _ _) fun _=>rfl)
  case hb =>
   intro L x y w1 o ⟨ho,hno,haft,hcl⟩ hI K hK
   obtain rfl:=Option.some.inj ho
   have a2:=haft ⟨2,.data⟩ (by simp) rfl
   have a4:=haft ⟨4,.data⟩ (by simp) rfl
   have a5:=haft ⟨5,.data⟩ (by simp) rfl
   have a7:=haft ⟨7,.data⟩ (by simp) rfl
   have a8:=haft ⟨8,.data⟩ (by simp) rfl
   have nl:L 10=false:=by
    cases h:L 10
    ·rfl
    ·have h0:=hcl 10 _ rfl h ⟨9,.data⟩ (by simp) rfl
     exact absurd (h0.symm.trans hno) (by decide)
   have hb:=(hI.1 nl).1
   refine wpOp_step rfl fun K' hK'=>?_
   simp (decide:=true) only[upd,a2,a4,a5,a7,a8,hno,nl,cond_true,cond_false,if_true,if_false] at hK ⊢
   go_simp
   exact hK' _ _ (hK _ _ (fun _=>⟨(Below.refl _ _).alloc (Nat.le_refl _) _,⟨w1.heap.size,rfl,heap_alloc_new w1 _⟩⟩) fun h=>by first|exact h.elim|(rw[nl] at h;cases h))
  case hz =>
   intro L x y w1 o ⟨ho,hno,haft,hcl⟩ hI K hK
   obtain rfl:=Option.some.inj ho
   have a0:=haft ⟨0,.data⟩ (by simp) rfl
   have a8:=haft ⟨8,.chain⟩ (by simp) rfl
   have a9:=haft ⟨9,.data⟩ (by simp) rfl
   have hb:=(hI.1 hno).1
   have hx:=(hI.1 hno).2 a9
   have n11:L 11=false:=by
    cases h:L 11
    ·rfl
    ·exact absurd ((hcl 11 _ rfl h ⟨10,.data⟩ (by simp) rfl).symm.trans hno) (by decide)
   obtain⟨g,rfl,hg2⟩:=hx
   refine wpOp_step rfl fun K' hK'=>?_
   simp (decide:=true) only[upd,a0,a8,a9,hno,n11,cond_true,cond_false,if_true,if_false] at hK ⊢
   go_simp
   refine (HRUN w1 g hb hg2).mono ?_
   rintro e wn ⟨A,cs,rfl,hA,hrow,hans,hb2⟩
   show K' _ _
   exact hK' _ _ (hK _ _ ⟨A,cs,rfl,hrow,hans,hb.trans (hb2.mono hb.size)⟩)
  case he =>
   intro L x y w1 hL hI
   have h0:=hL 0 (by decide)
   have h1:=hL 1 (by decide)
   have h2:=hL 2 (by decide)
   have h3:=hL 3 (by decide)
   have h4:=hL 4 (by decide)
   have h5:=hL 5 (by decide)
   have h6:=hL 6 (by decide)
   have h7:=hL 7 (by decide)
   have h8:=hL 8 (by decide)
   have h9:=hL 9 (by decide)
   have h10:=hL 10 (by decide)
   have h11:=hL 11 (by decide)
   have hy:=hI.2 h10
   simp only[h0,h1,h2,h3,h4,h5,h6,h7,h8,h9,h10,h11,cond_true]
   clear hL hI h0 h1 h2 h3 h4 h5 h6 h7 h8 h9 h10 h11
   obtain⟨A,cs,rfl,hrow,hans,hbR⟩:=hy
   go_wp2_with (fail)
   go_meet
   exact⟨A,cs,rfl,hrow,hans,hbR⟩
 case rest =>
  obtain⟨A,cs,rfl,hrow,hans,hbR⟩:=hcut
  obtain⟨wq,hwq⟩:∃x,x=wc:=⟨_,rfl⟩
  subst hwq
  have hlA:A<wq.heap.size:=(Array.getElem?_eq_some_iff.1 hrow).1
  obtain⟨hsz,hc9⟩:=hans
  have hcell:∀j,wq.cell? ⟨A,j,none⟩=cs[j]?:=fun j=>by simp[World.cell?,hrow]
  have x0:=(hbR.cell (p:=⟨w2.heap.size,0,none⟩) hzl).trans y0
  have x1:=(hbR.cell (p:=⟨w2.heap.size,1,none⟩) hzl).trans y1
  have x2:=(hbR.cell (p:=⟨w2.heap.size,2,none⟩) hzl).trans y2
  have HBR:=hide (hbw.trans (hbR.mono hbw.size))
  obtain⟨pl,hpl⟩:∃pl,pl=p.data.toList:=⟨_,rfl⟩
  have HD:=hide (dumped_any (unhide HC) p wq ((unhide HT).below ((unhide HBR).mono hng)))
  have hrs:=run_ons (unhide HC) t.data.toList p.data.toList
  rw[← hpl] at HD hrs hc9
  rcases hrs with⟨c,hpos,hrun⟩|⟨s,c,hpos,hrun,hdm⟩|⟨s,u,hrun,hdm,hul,hu⟩
  all_goals (
   rw[hrun] at hc9
   have q0:=hc9 0 (by simp)
   have q1:=hc9 1 (by simp)
   have q2:=hc9 2 (by simp)
   have q3:=hc9 3 (by simp)
   have q4:=hc9 4 (by simp)
   simp only[List.getElem_cons_zero,List.getElem_cons_succ] at q0 q1 q2 q3 q4
   have a00:=(hcell 0).trans q0.1
   have a10:=(hcell 3).trans q1.1
   have a20:=(hcell 6).trans q2.1
   have a21:=(hcell 7).trans q2.2.1
   have a22:=(hcell 8).trans q2.2.2
   have a30:=(hcell 9).trans q3.1
   have a40:=(hcell 12).trans q4.1
   have a41:=(hcell 13).trans q4.2.1
   have a42:=(hcell 14).trans q4.2.2
   clear q0 q1 q2 q3 q4 hc9 hcell hrow hsz hrun hbR hbw HRUN hz y0 y1 y2 hwb hpl)
  ·have e1:((c:Int) != 0)=true:=by simp;omega
   clear hpos a10 a20 a21 a22 a30 a40 a41 a42
   obtain⟨dm,hdm⟩:∃dm,dm=Sp.dmp d e pl:=⟨_,rfl⟩
   rw[← hdm] at HD
   clear hdm
   go_wp2_with (fail)
   refine (unhide HD).mono ?_
   rintro x w4 ⟨rfl,hb4⟩
   have b00:=(hb4.cell (p:=⟨A,0,none⟩) hlA).trans a00
   have HB4:=hide ((unhide HBR).trans (hb4.mono (unhide HBR).size))
   clear hb4 a00 HD
   go_wp2_with (fail)
   go_ret
   exact⟨rfl,unhide HB4⟩
  ·have e1:((c:Int) != 0)=true:=by simp;omega
   have e2:((c:Int) != (c:Int))=false:=by simp
   rw[hdm] at HD
   clear hpos hdm
   go_wp2_with (fail)
   refine (unhide HD).mono ?_
   rintro x w4 ⟨rfl,hb4⟩
   have b00:=(hb4.cell (p:=⟨A,0,none⟩) hlA).trans a00
   have b10:=(hb4.cell (p:=⟨A,3,none⟩) hlA).trans a10
   have b20:=(hb4.cell (p:=⟨A,6,none⟩) hlA).trans a20
   have b21:=(hb4.cell (p:=⟨A,7,none⟩) hlA).trans a21
   have b22:=(hb4.cell (p:=⟨A,8,none⟩) hlA).trans a22
   have b30:=(hb4.cell (p:=⟨A,9,none⟩) hlA).trans a30
   have b40:=(hb4.cell (p:=⟨A,12,none⟩) hlA).trans a40
   have b41:=(hb4.cell (p:=⟨A,13,none⟩) hlA).trans a41
   have b42:=(hb4.cell (p:=⟨A,14,none⟩) hlA).trans a42
   have HB4:=hide ((unhide HBR).trans (hb4.mono (unhide HBR).size))
   clear hb4 a00 a10 a20 a21 a22 a30 a40 a41 a42 HD
   go_wp2_with (fail)
   go_quiet (fail)
   go_wp2_with (fail)
   go_ret
   have hb9:=unhide HB4
   exact⟨rfl,⟨hb9.os,hb9.tape,hb9.output,hb9.size,hb9.block⟩⟩
  ·rw[hdm] at HD
   clear hdm
   go_wp2_with (fail)
   refine (unhide HD).mono ?_
   rintro x w4 ⟨rfl,hb4⟩
   have b00:=(hb4.cell (p:=⟨A,0,none⟩) hlA).trans a00
   have b10:=(hb4.cell (p:=⟨A,3,none⟩) hlA).trans a10
   have b20:=(hb4.cell (p:=⟨A,6,none⟩) hlA).trans a20
   have b21:=(hb4.cell (p:=⟨A,7,none⟩) hlA).trans a21
   have b22:=(hb4.cell (p:=⟨A,8,none⟩) hlA).trans a22
   have b30:=(hb4.cell (p:=⟨A,9,none⟩) hlA).trans a30
   have b40:=(hb4.cell (p:=⟨A,12,none⟩) hlA).trans a40
   have b41:=(hb4.cell (p:=⟨A,13,none⟩) hlA).trans a41
   have b42:=(hb4.cell (p:=⟨A,14,none⟩) hlA).trans a42
   have HB4:=hide ((unhide HBR).trans (hb4.mono (unhide HBR).size))
   have HU:=hide hu
   have HUL:=hide hul
   clear hb4 a00 a10 a20 a21 a22 a30 a40 a41 a42 HD hu hul
   go_wp2_with (fail)
   go_quiet (fail)
   have hp:0<(⟨u.toArray⟩:ByteArray).size:=by rw[bs_size];exact unhide HUL
   have hp2:(0:Int)<((⟨u.toArray⟩:ByteArray).size:Int):=by omega
   by_cases h1:((⟨u.toArray⟩:ByteArray)[0]'hp).toNat=123
   ·have h2:((((⟨u.toArray⟩:ByteArray)[0]'hp).toNat:Int) == 123)=true:=by rw[h1];rfl
    clear h1
    go_wp2_with (fail)
    go_ret
    have hb9:=unhide HB4
    exact⟨rfl,⟨hb9.os,hb9.tape,hb9.output,hb9.size,hb9.block⟩⟩
   ·have h2:((((⟨u.toArray⟩:ByteArray)[0]'hp).toNat:Int) == 123)=false:=by simp;omega
    have hsu:s=u:=(unhide HU).resolve_left fun e=>h1 (by
     cases u with
     | nil=>cases e
     | cons x r =>
      injection e with e
      subst e
      rfl)
    subst hsu
    clear h1
    go_wp2_with (fail)
    go_ret
    have hb9:=unhide HB4
    exact⟨rfl,⟨hb9.os,hb9.tape,hb9.output,hb9.size,hb9.block⟩⟩
end
end Go.Proofs.YtdpomdelmdofmaaGreatDoor
