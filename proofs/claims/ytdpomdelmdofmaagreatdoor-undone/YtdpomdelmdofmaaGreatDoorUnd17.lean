import Derived.Test.YtdpomdelmdofmaaGreatDoorUnd16
namespace Go.Proofs.YtdpomdelmdofmaaGreatDoor
open Go.Proofs.Tryz
section
set_option maxRecDepth 100000
set_option maxHeartbeats 4000000
open Go.RowKit Go.Maps
section
variable{w:World}{b:Nat}{pth:Value}{key:Sp.By}{i:Nat}
theorem qw{m n:Nat}{D:List (Lit×DataW Value)}{pu:Option Addr}(hk:key.length<=1048576)(hn:n<maxLen)(ho:w.ownsMap Tryz.prog 9 RV m n (.map D))(o:Obj) :
  ∃w3,(Instr.mapUpdate 109 (.map (some m)) (.string ⟨key.toArray⟩) (.pointer pu)).run Tryz.prog ((w.alloc o).drew) = .ok () w3/\w3.ownsMap Tryz.prog 9 RV m (n+1) (DataW.put (.map D) (.string key) (.held (.pointer pu)))/\w.grownBy w3 (some m):=by
 have h0:((w.alloc o).drew).ownsMap Tryz.prog 9 RV m n (.map D):=(ho.alloc o).drew;obtain⟨w3,hrun,h1,h2⟩:=h0.update cM underlying109 hn (ix key hk) (val:=.pointer pu) (d:=.held (.pointer pu)) (ps:=[]) rfl;have h3:=World.grownBy_alloc w o none;have h4:w.grownBy ((w.alloc o).drew) none:=⟨h3.os,h3.tape,h3.output,h3.size,h3.block⟩
 refine⟨w3,hrun,h1,?_⟩;exact⟨h2.os.trans h4.os,h2.tape.trans h4.tape,h2.output.trans h4.output,Nat.le_trans h4.size h2.size,fun j hj hne=>(h2.block j (Nat.lt_of_lt_of_le hj h4.size) hne).trans (h4.block j hj (by simp))⟩
theorem B0{m n:Nat}{D:List (Lit×DataW Value)}{pu:Option Addr}(hk:key.length<=1048576)(hn:n<maxLen)(h:VB w b 6 n0 [] (.slice none 0 0) (.map (some m)))(ho:w.ownsMap Tryz.prog 9 RV m n (.map D)) :
  Calls Tryz.prog 250 #[plV pth b key i,.pointer pu] w fun e w'=>e = .returned (.tuple #[])/\w'.ownsMap Tryz.prog 9 RV m (n+1) (DataW.put (.map D) (.string key) (.held (.pointer pu)))/\w.grownBy w' (some m):=by
 have hbl:=h.lt;have q0:∀o,(w.alloc o).cell? ⟨b,0,none⟩=some (.int .i64 6):=fun o=>(World.cell?_of_block (w:=w) (Below.heap_alloc w o b hbl)).trans h.c0;have q6:∀o,(w.alloc o).cell? ⟨b,6,none⟩=some (.map (some m)):=fun o=>(World.cell?_of_block (w:=w) (Below.heap_alloc w o b hbl)).trans h.c6;have HU:=qw (pu:=pu) hk hn ho;clear h ho;obtain⟨W,hW⟩:=Classical.axiomOfChoice HU;have hrun:=fun o=>(hW o).1;have HOWN:=U (fun o=>(hW o).2.1);have HG:=U (fun o=>(hW o).2.2);clear hW HU
 go_enter func250,ntmps250
 go_wp2_with (fail)
 go_region_law (fail)
 all_goals (
  go_wp2_with (fail);exact bodyPost_ret (results_none rfl _ _ _) rfl ⟨rfl,O HOWN _,O HG _⟩)
theorem ve{m n:Nat}{D:List (Lit×DataW Value)}{pu:Option Addr}(hk:key.length<=1048576)(hn:n<maxLen)(h:VB w b 6 n0 [] (.slice none 0 0) (.map (some m)))(ho:w.ownsMap Tryz.prog 9 RV m n (.map D)) :
  Calls Tryz.prog 249 #[plV pth b key i,.pointer pu] w fun e w'=>e = .returned (.tuple #[])/\w'.ownsMap Tryz.prog 9 RV m (n+1) (DataW.put (.map D) (.string key) (.held (.pointer pu)))/\w.grownBy w' (some m):=by
 have hbl:=h.lt;have q0:∀o,(w.alloc o).cell? ⟨b,0,none⟩=some (.int .i64 6):=fun o=>(World.cell?_of_block (w:=w) (Below.heap_alloc w o b hbl)).trans h.c0;have q6:∀o,(w.alloc o).cell? ⟨b,6,none⟩=some (.map (some m)):=fun o=>(World.cell?_of_block (w:=w) (Below.heap_alloc w o b hbl)).trans h.c6;have HU:=qw (pu:=pu) hk hn ho;clear h ho;obtain⟨W,hW⟩:=Classical.axiomOfChoice HU;have hrun:=fun o=>(hW o).1;have HOWN:=U (fun o=>(hW o).2.1);have HG:=U (fun o=>(hW o).2.2);clear hW HU
 go_enter func249,ntmps249
 go_wp2_with (fail)
 go_region_law (fail)
 all_goals (
  go_wp2_with (fail);exact bodyPost_ret (results_none rfl _ _ _) rfl ⟨rfl,O HOWN _,O HG _⟩)
end
end

section
set_option maxRecDepth 100000
set_option maxHeartbeats 4000000
open Go.RowKit Go.Maps
section
variable{w:World}{b:Nat}{pth:Value}{key:Sp.By}{i:Nat}
theorem AQ{m n:Nat}{D:List (Lit×DataW Value)}(hk:key.length<=1048576)(ho:w.ownsMap Tryz.prog 9 RV m n (.map D))(x:Obj×TypeId) :
  ∃w3,(Builtin.delete_ #[109,9] x.2 #[.map (some m),.string ⟨key.toArray⟩]).run Tryz.prog ((w.alloc x.1).drew) = .ok (.tuple #[]) w3/\w3.ownsMap Tryz.prog 9 RV m n (DataW.del (.map D) (.string key))/\w.grownBy w3 (some m):=by
 have h0:((w.alloc x.1).drew).ownsMap Tryz.prog 9 RV m n (.map D):=(ho.alloc x.1).drew;obtain⟨w3,hrun,h1,h2⟩:=h0.drop cM underlying109 (ix key hk) x.2;have h3:=World.grownBy_alloc w x.1 none;have h4:w.grownBy ((w.alloc x.1).drew) none:=⟨h3.os,h3.tape,h3.output,h3.size,h3.block⟩
 have h5:=h2.grown;refine⟨w3,hrun,h1,?_⟩;exact⟨h5.os.trans h4.os,h5.tape.trans h4.tape,h5.output.trans h4.output,Nat.le_trans h4.size h5.size,fun j hj hne=>(h5.block j (Nat.lt_of_lt_of_le hj h4.size) hne).trans (h4.block j hj (by simp))⟩
theorem uL{m n:Nat}{D:List (Lit×DataW Value)}(hk:key.length<=1048576)(h:VB w b 6 n0 [] (.slice none 0 0) (.map (some m)))(ho:w.ownsMap Tryz.prog 9 RV m n (.map D)) :
  Calls Tryz.prog 246 #[plV pth b key i] w fun e w'=>e = .returned (.tuple #[])/\w'.ownsMap Tryz.prog 9 RV m n (DataW.del (.map D) (.string key))/\w.grownBy w' (some m):=by
 have hbl:=h.lt;have q0:∀o,(w.alloc o).cell? ⟨b,0,none⟩=some (.int .i64 6):=fun o=>(World.cell?_of_block (w:=w) (Below.heap_alloc w o b hbl)).trans h.c0;have q6:∀o,(w.alloc o).cell? ⟨b,6,none⟩=some (.map (some m)):=fun o=>(World.cell?_of_block (w:=w) (Below.heap_alloc w o b hbl)).trans h.c6;have HU:=AQ hk ho;clear h ho;obtain⟨W,hW⟩:=Classical.axiomOfChoice HU;have hrun:∀o ty,(Builtin.delete_ #[109,9] ty #[.map (some m),.string ⟨key.toArray⟩]).run Tryz.prog ((w.alloc o).drew) = .ok (.tuple #[]) (W (o,ty)):=fun o ty=>(hW (o,ty)).1;have HOWN:=U (fun x=>(hW x).2.1);have HG:=U (fun x=>(hW x).2.2);clear hW HU
 go_enter func246,ntmps246
 go_wp2_with (fail)
 go_region_law (fail)
 all_goals (
  go_wp2_with (fail);exact bodyPost_ret (results_none rfl _ _ _) rfl ⟨rfl,O HOWN _,O HG _⟩)
end
end

section
set_option maxHeartbeats 4000000
open Go.RowKit Go.Maps
def Bg(r:Except Nat Nat):Value:=match r with
 | .ok i=>.tuple #[.int .i64 i,.int .i64 0]
 | .error c=>.tuple #[.int .i64 0,.int .i64 c]
theorem qJ{w:World}{b:Nat}{t:Sp.By}{sl:Value}{ps:List Value}(ht:t.length<=1048576)(hr:Rng w)(h:VB w b 5 n0 [] sl (.map none))(ho:w.ownsRow 0 80 1 sl ps.length ps) :
  Calls Tryz.prog 244 #[.pointer (some ⟨b,0,none⟩),.string ⟨t.toArray⟩] w fun e w'=>e = .returned (Bg (Sp.dU ps.length t))/\Below w.heap.size w w':=by
 have c5:=h.c5;have hI:=U (ji t w ht hr);have hmx:=fw ho;obtain⟨N,hN⟩:∃N,N=ps.length:=⟨_,rfl⟩
 obtain⟨a,c,rfl⟩:=eJ ho;obtain⟨V,hV⟩:∃V,V=Bg (Sp.dU ps.length t):=⟨_,rfl⟩
 rw[<- hV];rw[<- hN] at c5 hV hmx;have hn1:(N:Int)<=9223372036854775807:=by unfold maxLen at hmx;omega
 by_cases hd:t=[45]
 ·have HV:=U (show V = .tuple #[.int .i64 N,.int .i64 0] by rw[hV,Sp.dU,if_pos hd];rfl);have e1:(t == [45])=true:=by rw[hd];rfl
  have e2:(t != [45])=false:=by rw[hd];rfl
  clear h ho hN hV hd hmx
  go_enter func244,ntmps244
  go_wp2_with (fail)
  go_ret2
  exact⟨by rw[O HV];rfl,Below.refl _ _⟩
 ·have e1:(t == [45])=false:=by simpa using hd
  have e2:(t != [45])=true:=by simpa using hd
  cases hi:Sp.idx t with
  | none =>
   have HV:=U (show V = .tuple #[.int .i64 0,.int .i64 12] by rw[hV,Sp.dU,if_neg hd,hi];rfl);rw[hi] at hI;clear h ho hN hV hd hi hmx
   go_enter func244,ntmps244
   go_wp2_with (fail);refine (O hI).mono ?_
   rintro e w2 ⟨rfl,hb⟩;unfold ig
   go_wp2_with (fail)
   go_ret2
   exact⟨by rw[O HV];rfl,hb⟩
  | some i =>
   rw[hi] at hI;by_cases hlt:N<i
   ·have HV:=U (show V = .tuple #[.int .i64 0,.int .i64 11] by rw[hV,Sp.dU,if_neg hd,hi];simp only;rw[if_pos hlt];rfl);have hl2:(N:Int)<(i:Int):=by omega
    clear h ho hN hV hd hi hmx
    go_enter func244,ntmps244
    go_wp2_with (fail);refine (O hI).mono ?_
    rintro e w2 ⟨rfl,hb⟩;unfold ig
    go_wp2_with (fail)
    go_ret2
    exact⟨by rw[O HV];rfl,hb⟩
   ·have HV:=U (show V = .tuple #[.int .i64 i,.int .i64 0] by rw[hV,Sp.dU,if_neg hd,hi];simp only;rw[if_neg hlt];rfl);have hl2:¬ (N:Int)<(i:Int):=by omega
    clear h ho hN hV hd hi hmx
    go_enter func244,ntmps244
    go_wp2_with (fail);refine (O hI).mono ?_
    rintro e w2 ⟨rfl,hb⟩;unfold ig
    go_wp2_with (fail)
    go_ret2
    exact⟨by rw[O HV];rfl,hb⟩
end

section
set_option maxRecDepth 100000
set_option maxHeartbeats 4000000
open Go.RowKit Go.Maps
attribute [local go_sem ↓] Go.wp_at_zero Go.wp_at_succ
theorem VB.set5{w:World}{b:Nat}{k:Int}{n:Sp.Nm}{s:Sp.By}{sl mp:Value}(h:VB w b k n s sl mp)(v:Value):VB (w.setCell ⟨b,5,none⟩ v) b k n s v mp:=by
 simp only[VB,World.setCell,Array.getElem?_modify];rw[if_pos trivial,show w.heap[b]? = _ from h];rfl
theorem VB.z{w:World}{b:Nat}{k:Int}{n:Sp.Nm}{s:Sp.By}{sl mp:Value}(h:VB w b k n s sl mp)(o:Nat):w.frozen? ⟨b,o,none⟩=false:=by simp[World.frozen?,show w.heap[b]? = _ from h]
def ga(b:Nat)(sl:Value)(l':List (Option Addr))(w:World)(e:Ending)(w':World):Prop :=
 e = .returned (.tuple #[]) /\ ∃g cap,VB w' b 5 n0 [] (.slice (some ⟨g,0,none⟩) l'.length cap) (.map none)/\w'.ownsRow 0 80 1 (.slice (some ⟨g,0,none⟩) l'.length cap) l'.length (l'.map Value.pointer) /\
  (sl.ownBlock=some g\/w.heap.size<=g)/\aw (fun k=>k=b\/sl.ownBlock=some k) w w'
theorem ga.of{b:Nat}{sl:Value}{l':List (Option Addr)}{w w1 w2:World}{g cap n:Nat}(hn:n=l'.length)(hg:b≠g)(h1:VB w1 b 5 n0 [] sl (.map none))(hB:Below w.heap.size w w1)(ho:w2.ownsRow 0 80 1 (.slice (some ⟨g,0,none⟩) n cap) n (l'.map Value.pointer))(hk:w1.grownBy w2 sl.ownBlock)(hbs:sl.ownBlock≠some b)(hor:sl.ownBlock=some g\/w.heap.size<=g) :
  ga b sl l' w (.returned (.tuple #[])) (w2.setCell ⟨b,5,none⟩ (.slice (some ⟨g,0,none⟩) n cap)):=by
 subst hn;have h2:VB w2 b 5 n0 [] sl (.map none):=h1.kept (hk.block b h1.lt (fun e=>hbs e.symm));refine⟨rfl,g,cap,h2.set5 _,bc ho fun k hk2=>?_,hor,?_⟩
 ·simp[Value.ownBlock] at hk2;exact Below.heap_setCell _ _ _ _ (by show k≠b;omega)
 ·have h3:aw (fun k=>k=b\/sl.ownBlock=some k) w w1:=aw.of_below hB;have h4:aw (fun k=>k=b\/sl.ownBlock=some k) w w2:=h3.trans (F':=fun k=>sl.ownBlock=some k) ⟨hk.os,hk.tape,hk.output,hk.size,fun k hk2 hne=>hk.block k hk2 (fun e=>hne e.symm)⟩ fun k _ h=>Or.inr h;exact h4.setCell (p:=⟨b,5,none⟩) (Or.inl (Or.inl rfl)) _
section
variable{w:World}{b:Nat}{pth:Value}{key:Sp.By}{i:Nat}
theorem uM{sl:Value}{l:List (Option Addr)}(h:VB w b 5 n0 [] sl (.map none))(ho:w.ownsRow 0 80 1 sl l.length (l.map Value.pointer))(hi:i<l.length)(hbs:sl.ownBlock≠some b) :
  Calls Tryz.prog 246 #[plV pth b key i] w (ga b sl (Sp.ldel i l) w):=by
 have hbl:=h.lt;have q0:∀o,(w.alloc o).cell? ⟨b,0,none⟩=some (.int .i64 5):=fun o=>(World.cell?_of_block (w:=w) (Below.heap_alloc w o b hbl)).trans h.c0;have q5:∀o,(w.alloc o).cell? ⟨b,5,none⟩=some sl:=fun o=>(World.cell?_of_block (w:=w) (Below.heap_alloc w o b hbl)).trans h.c5;have hmx:=fw ho;have hwr:IntKind.i64.wrap ((i:Int)+1)=((i+1:Nat):Int):=by rw[IntKind.wrap_i64];unfold maxLen at hmx;omega
 have HO:=U ho;have HV:=U h;have HI:=U hi;have HBS:=U hbs;have hlen:l.length-1=(Sp.ldel i l).length:=by have:=Sp.my hi;omega
 clear h ho hi hbs hmx
 go_enter func246,ntmps246
 go_wp2_with (fail);have hbx:=heap_alloc_new w (.cells #[pth,.pointer (some ⟨b,0,none⟩),.string ⟨key.toArray⟩,.int .i64 i] 185)
 have hba:=(Below.refl w.heap.size w).alloc (Nat.le_refl _) (.cells #[pth,.pointer (some ⟨b,0,none⟩),.string ⟨key.toArray⟩,.int .i64 i] 185);generalize w.alloc (.cells #[pth,.pointer (some ⟨b,0,none⟩),.string ⟨key.toArray⟩,.int .i64 i] 185)=wa at *;clear q0 q5;have hva:VB wa b 5 n0 [] sl (.map none):=(O HV).kept (hba.block b hbl);have b1:wa.cell? ⟨w.heap.size,1,none⟩=some (.pointer (some ⟨b,0,none⟩)):=by simp[World.cell?,hbx]
 have b3:wa.cell? ⟨w.heap.size,3,none⟩=some (.int .i64 i):=by simp[World.cell?,hbx]
 have b5:=hva.c5;have hoa:=bc (O HO) fun g hg=>hba.block g (aE (O HO) g hg).1;obtain⟨g,cap,hsl,hc⟩:=EO (i:=i) (show (wa.drew).ownsRow 0 80 1 sl l.length (l.map Value.pointer) from hoa) (O HI);have hsl2:sl.ownBlock=some g:=by rw[hsl];rfl
 have hbg:b≠g:=fun e=>O HBS (by rw[hsl2,e]);have hgl:g<w.heap.size:=(aE (O HO) g hsl2).1;have hbxl:w.heap.size<wa.heap.size:=(Array.getElem?_eq_some_iff.1 hbx).1;have HC:=U (hc.mono (R':=fun e w2=>e = .returned (.slice (some ⟨g,0,none⟩) (l.length-1) cap)/\w2.cell? ⟨w.heap.size,1,none⟩=some (.pointer (some ⟨b,0,none⟩))/\w2.cell? ⟨w.heap.size,3,none⟩=some (.int .i64 i)/\w2.cell? ⟨b,5,none⟩=some sl/\w2.frozen? ⟨b,5,none⟩=false/\ga b sl (Sp.ldel i l) w (.returned (.tuple #[])) (w2.setCell ⟨b,5,none⟩ (.slice (some ⟨g,0,none⟩) (l.length-1) cap))) (by
  rintro e w2 ⟨rfl,ho2,hk2⟩;have hkb:w2.heap[b]? = wa.heap[b]?:=hk2.block b hva.lt (fun e=>hbg (Option.some.inj e));have hkx:w2.heap[w.heap.size]? = wa.heap[w.heap.size]?:=hk2.block _ hbxl (fun e=>by have:=Option.some.inj e;omega);have hv2:VB w2 b 5 n0 [] sl (.map none):=hva.kept hkb;refine⟨rfl,(World.cell?_of_block (a:=⟨w.heap.size,1,none⟩) hkx).trans b1,(World.cell?_of_block (a:=⟨w.heap.size,3,none⟩) hkx).trans b3,hv2.c5,hv2.z 5,?_⟩;exact ga.of hlen hbg hva hba ho2 (by rw[hsl2];exact⟨hk2.os,hk2.tape,hk2.output,hk2.size,hk2.block⟩) (O HBS) (Or.inl hsl2)))
 clear hc hoa hbx hba hva HV HO HI HBS hlen hsl2 hgl hbxl hbg hsl;have hn1:¬ w.heap.size=b:=by omega
 have hn2:¬ b=w.heap.size:=by omega
 clear hbl
 go_region_with (go_at_call 290;refine (O HC).mono ?_;rintro e w2 ⟨rfl,k1,k3,k5,kz,kend⟩;have KEND:=U kend;clear kend)
 all_goals exact bodyPost_end (results_none rfl _ _ _) rfl (O KEND)
end
end

section
set_option maxRecDepth 100000
set_option maxHeartbeats 4000000
open Go.RowKit Go.Maps
attribute [local go_sem ↓] Go.wp_at_zero Go.wp_at_succ
section
variable{w:World}{b:Nat}{pth:Value}{key:Sp.By}{i:Nat}
theorem vf{sl:Value}{l:List (Option Addr)}{x:Option Addr}(h:VB w b 5 n0 [] sl (.map none))(ho:w.ownsRow 0 80 1 sl l.length (l.map Value.pointer))(hi:i<=l.length)(hb:l.length<=1000000000000)(hbs:sl.ownBlock≠some b) :
  Calls Tryz.prog 249 #[plV pth b key i,.pointer x] w (ga b sl (Sp.lins i x l) w):=by
 have hbl:=h.lt;have q0:∀o,(w.alloc o).cell? ⟨b,0,none⟩=some (.int .i64 5):=fun o=>(World.cell?_of_block (w:=w) (Below.heap_alloc w o b hbl)).trans h.c0;have q5:∀o,(w.alloc o).cell? ⟨b,5,none⟩=some sl:=fun o=>(World.cell?_of_block (w:=w) (Below.heap_alloc w o b hbl)).trans h.c5;have HO:=U ho;have HV:=U h;have HI:=U hi;have HBS:=U hbs;have hlen:l.length+1=(Sp.lins i x l).length:=(Sp.j5 x hi).symm;clear h ho hi hbs
 go_enter func249,ntmps249
 go_wp2_with (fail);have hbx:=heap_alloc_new w (.cells #[pth,.pointer (some ⟨b,0,none⟩),.string ⟨key.toArray⟩,.int .i64 i] 185)
 have hba:=(Below.refl w.heap.size w).alloc (Nat.le_refl _) (.cells #[pth,.pointer (some ⟨b,0,none⟩),.string ⟨key.toArray⟩,.int .i64 i] 185);generalize w.alloc (.cells #[pth,.pointer (some ⟨b,0,none⟩),.string ⟨key.toArray⟩,.int .i64 i] 185)=wa at *;clear q0 q5;have hva:VB wa b 5 n0 [] sl (.map none):=(O HV).kept (hba.block b hbl);have b1:wa.cell? ⟨w.heap.size,1,none⟩=some (.pointer (some ⟨b,0,none⟩)):=by simp[World.cell?,hbx]
 have b3:wa.cell? ⟨w.heap.size,3,none⟩=some (.int .i64 i):=by simp[World.cell?,hbx]
 have b5:=hva.c5;have hoa:=bc (O HO) fun g hg=>hba.block g (aE (O HO) g hg).1;have hbxl:w.heap.size<wa.heap.size:=(Array.getElem?_eq_some_iff.1 hbx).1;have HC:=U (show ∀W:World,W.heap=(wa.alloc (.cells #[.pointer x] 80)).heap->W.os=wa.os->W.tape=wa.tape->W.output=wa.output->Calls Tryz.prog 291 #[sl,.int .i64 i,.slice (some ⟨wa.heap.size,0,none⟩) 1 1] W fun e w2=>∃g cap,e = .returned (.slice (some ⟨g,0,none⟩) (l.length+1) cap)/\w2.cell? ⟨w.heap.size,1,none⟩=some (.pointer (some ⟨b,0,none⟩))/\w2.cell? ⟨w.heap.size,3,none⟩=some (.int .i64 i)/\w2.cell? ⟨b,5,none⟩=some sl/\w2.frozen? ⟨b,5,none⟩=false/\Hid (ga b sl (Sp.lins i x l) w (.returned (.tuple #[])) (w2.setCell ⟨b,5,none⟩ (.slice (some ⟨g,0,none⟩) (l.length+1) cap))) from fun W hW e1 e2 e3=>by
  have hold:∀k,k<wa.heap.size->W.heap[k]? = wa.heap[k]?:=fun k hk=>by rw[hW];exact Below.heap_alloc wa _ k hk
  have hnew:W.heap[wa.heap.size]? = some (.cells #[.pointer x] 80 (0,0)):=by rw[hW];exact heap_alloc_new wa _
  have hWs:wa.heap.size<W.heap.size:=(Array.getElem?_eq_some_iff.1 hnew).1;have hoW:=bc (w':=W) hoa fun g hg=>hold g (aE hoa g hg).1;refine (EN hoW hnew (fun e=>by have:=(aE hoa _ e).1;omega) (O HI) hb).mono ?_;rintro e w2 ⟨g,cap,rfl,ho2,hk2,hor⟩;have hne:∀k,k<wa.heap.size->sl.ownBlock≠some k->w2.heap[k]? = wa.heap[k]?:=fun k hk hn=>(hk2.block k (by omega) (fun e=>hn e.symm)).trans (hold k hk);have hkb:=hne b hva.lt (O HBS);have hkx:=hne w.heap.size hbxl (fun e=>by have:=(aE (O HO) _ e).1;omega);have hv2:VB w2 b 5 n0 [] sl (.map none):=hva.kept hkb;refine⟨g,cap,rfl,(World.cell?_of_block (a:=⟨w.heap.size,1,none⟩) hkx).trans b1,(World.cell?_of_block (a:=⟨w.heap.size,3,none⟩) hkx).trans b3,hv2.c5,hv2.z 5,?_⟩;have hbg:b≠g:=fun e=>by
   rcases hor with h|h
   ·exact O HBS (by rw[h,e])
   ·have:=hva.lt;omega
  refine ga.of hlen hbg hva hba ho2 ⟨hk2.os.trans e1,hk2.tape.trans e2,hk2.output.trans e3,by have:=hk2.size;omega,fun k hk hn=>hne k hk (fun e=>hn e.symm)⟩ (O HBS) (hor.imp id fun h=>by have:=hba.size;omega))
 have d1:∀o,(wa.alloc o).cell? ⟨w.heap.size,1,none⟩=some (.pointer (some ⟨b,0,none⟩)):=fun o=>(World.cell?_of_block (a:=⟨w.heap.size,1,none⟩) (Below.heap_alloc wa o _ hbxl)).trans b1;have d3:∀o,(wa.alloc o).cell? ⟨w.heap.size,3,none⟩=some (.int .i64 i):=fun o=>(World.cell?_of_block (a:=⟨w.heap.size,3,none⟩) (Below.heap_alloc wa o _ hbxl)).trans b3;have d5:∀o,(wa.alloc o).cell? ⟨b,5,none⟩=some sl:=fun o=>(World.cell?_of_block (a:=⟨b,5,none⟩) (Below.heap_alloc wa o _ hva.lt)).trans b5;clear hoa hbx hba hva HV HO HI HBS hlen;have hn1:¬ w.heap.size=b:=by omega
 have hn2:¬ b=w.heap.size:=by omega
 clear hbl
 go_region_with (go_at_call 291;refine (O HC _ (by rfl) (by rfl) (by rfl) (by rfl)).mono ?_;rintro e w2 ⟨g,cap,rfl,k1,k3,k5,kz,KEND⟩)
 all_goals exact bodyPost_end (results_none rfl _ _ _) rfl (O KEND)
end
end

section
set_option maxHeartbeats 8000000
set_option maxRecDepth 100000
open Go.RowKit Go.Maps
namespace Sp
theorem gy:∀l,0<=cd l
 | []=>Int.le_refl _
 | x::r=>by have:=gy r;simp only[cd];omega
theorem pK(x:Int):∀l,cd (l++[x])=max (cd l) x
 | []=>by simp only[List.nil_append,cd];omega
 | y::r=>by have:=pK x r;simp only[List.cons_append,cd];omega
theorem fJ{m:Int}(h0:0<=m):∀ {l:List Int},(∀x∈l,x<=m)->cd l<=m
 | [],_=>h0
 | x::r,h=>by
  have h1:=h x (by simp);have h2:=fJ h0 (l:=r) (fun y hy=>h y (by simp[hy]));simp only[cd];omega
theorem lD{x:Int}:∀ {l:List Int},x∈l->x<=cd l
 | y::r,h=>by
  rcases List.mem_cons.1 h with rfl|h
  ·simp only[cd];omega
  ·have:=lD h;simp only[cd];omega
theorem uk(f:Nat)(es:List V):dep (f+1) (au es)=1+cd (es.map (dep f)):=rfl
theorem ui(f:Nat)(es:List (Lit×V)):dep (f+1) (az es)=1+cd (es.map fun p=>dep f p.2):=rfl
theorem nM:∀ (f:Nat) (d:V),0<=dep f d/\dep f d<=f
 | 0,_=>⟨Int.le_refl _,Int.le_refl _⟩
 | f+1,d=>by
  unfold dep;split
  ·rename_i es _;have h1:=gy (es.map (dep f));have h2:=fJ (m:=f) (by omega) (l:=es.map (dep f)) (fun x hx=>by
    obtain⟨y,_,rfl⟩:=List.mem_map.1 hx;exact (nM f y).2)
   omega
  ·rename_i es;have h1:=gy (es.map fun p=>dep f p.2);have h2:=fJ (m:=f) (by omega) (l:=es.map fun p=>dep f p.2) (fun x hx=>by
    obtain⟨y,_,rfl⟩:=List.mem_map.1 hx;exact (nM f y.2).2)
   omega
  ·omega
end Sp
theorem sf{es:List (Lit×Sp.V)}{k:Lit}(h:Maps.has (.map es:DataW Unit) k=true):∃p∈es,(DataW.map es).atKey k .nil=p.2:=by
 rw[cF];cases hf:es.find? (fun p=>p.1.sameKey k) with
 | none =>
  obtain⟨p,hp,hs⟩:=List.any_eq_true.1 (show es.any (fun p=>p.1.sameKey k)=true from h);exact absurd hs (by simpa using List.find?_eq_none.1 hf p hp)
 | some p=>exact⟨p,List.mem_of_find?_eq_some hf,rfl⟩
theorem EB{es:List (Lit×Sp.V)}(c:Maps.Canon (.map es:DataW Unit)){P:Sp.V->Prop}(h:∀k,Maps.has (.map es:DataW Unit) k=true->P ((DataW.map es).atKey k .nil)):∀p∈es,P p.2:=by
 obtain⟨_,he,hp,hk⟩:=c;injection he with he;subst he;intro p hpm;have h1:=h p.1 (List.any_eq_true.2 ⟨p,hpm,WideAt.sameKey_self (hk p hpm)⟩)
 rwa [WideAt.atKey_mem .nil (hk p hpm) (apart_of_rising hp) (show (p.1,p.2)∈es from hpm)] at h1
def nV(f:Nat):Prop:=∀ (F:Nat->Prop) (w:World) (v:Value) (a:Sp.V),Rep f F w v a->Calls Tryz.prog 157 #[v] w fun e w'=>e = .returned (.int .i64 (Sp.dep f a))/\Below w.heap.size w w'
section
variable{w:World}{b:Nat}
theorem mI{k:Int}{n:Sp.Nm}{s:Sp.By}{sl mp:Value}(h:VB w b k n s sl mp)(h5:k≠5)(h6:k≠6) :
  Calls Tryz.prog 157 #[.pointer (some ⟨b,0,none⟩)] w fun e w'=>e = .returned (.int .i64 1)/\Below w.heap.size w w':=by
 have c0:=h.c0;have e5:(k == 5)=false:=beq_eq_false_iff_ne.2 h5;have e6:(k == 6)=false:=beq_eq_false_iff_ne.2 h6;clear h h5 h6
 go_enter func157,ntmps157
 go_wp2_with (fail)
 go_ret;exact⟨rfl,Below.refl _ _⟩
theorem ym{f:Nat}(hS:nV f)(hf:f<=5000){F:Nat->Prop}{sl:Value}{ps:List Value}{es:List Sp.V}(h:VB w b 5 n0 [] sl (.map none))(ho:w.ownsRow 0 80 1 sl ps.length ps)(ha:Al (Rep f F w) ps es) :
  Calls Tryz.prog 157 #[.pointer (some ⟨b,0,none⟩)] w fun e w'=>e = .returned (.int .i64 (1+Sp.cd (es.map (Sp.dep f))))/\Below w.heap.size w w':=by
 have c0:=h.c0;have c5:=h.c5;have hl:=ha.length;have hmx:=fw ho;obtain⟨N,hN⟩:∃N,N=ps.length:=⟨_,rfl⟩
 have hn1:(N:Int)<=9223372036854775807:=by unfold maxLen at hmx;omega
 by_cases h0:N=0
 ·obtain⟨a,c,rfl⟩:=kM ho (by omega);have e1:es=[]:=List.eq_nil_of_length_eq_zero (by omega);subst e1;clear h ho ha hl hS hN hmx
  go_enter func157,ntmps157
  go_wp2_with (fail);refine wp_loop_rounds 1 ?_
  rw[rounds_succ]
  go_wp2_with (fail)
  go_ret;exact⟨rfl,Below.refl _ _⟩
 ·obtain⟨g1,p1,rfl,a1,b1,l1,hc1⟩:=bQ ho (by omega);have HC1:=U hc1;have HA:=U ha;have HS:=U hS;have HN:=U hN;have HL:=U hl;have HF:=U hf;rw[<- hN] at a1 c5;clear h ho ha hl hS hN hc1 h0 hmx hf
  go_enter func157,ntmps157
  go_wp2_with (fail)
  go_loopw [3,19] (fun dv i wr=>∃k:Nat,k<=N/\i = .int .i64 k/\dv = .int .i64 (Sp.cd ((es.map (Sp.dep f)).take k))/\Below w.heap.size w wr) (fun _ i _=>N-(intOf i).toNat)
  case atStart=>exact⟨0,by omega,rfl,rfl,Below.refl _ _⟩
  case round =>
   obtain⟨k,hk,rfl,rfl,hb⟩:=hrel;have HB:=U hb;by_cases hlt:k<N
   ·have h1:k<ps.length:=by have:=O HN;omega
    have h3:k<es.length:=by have:=O HL;omega
    have q1:=(hb.cell (p:=⟨g1,k,none⟩) l1).trans (O HC1 k h1);have hcall:=U (O HS F wr ps[k] es[k] (((O HA).get k h1 h3).bel hb));have HST:=U (show Sp.cd ((es.map (Sp.dep f)).take (k+1))=max (Sp.cd ((es.map (Sp.dep f)).take k)) (Sp.dep f es[k]) from by
     rw[List.take_succ_eq_append_getElem (by simpa using h3),Sp.pK,List.getElem_map])
    generalize ps[k]=pk at *;generalize Sp.cd ((es.map (Sp.dep f)).take k)=M at *;generalize Sp.dep f es[k]=x at *;clear hb
    go_wp2_with (fail);refine (O hcall).mono ?_
    rintro e w2 ⟨rfl,hb2⟩;have HB2:=U ((O HB).trans (hb2.mono (O HB).size));clear hb2 hcall
    go_wp2_with (fail);exact⟨⟨k+1,by omega,by go_num,by rw[O HST],O HB2⟩,by simp only[intOf];omega⟩
   ·have hall:(es.map (Sp.dep f)).take k=es.map (Sp.dep f):=List.take_of_length_le (by have:=O HN;have:=O HL;simp only[List.length_map];omega);rw[hall];have m1:=Sp.gy (es.map (Sp.dep f));have m2:Sp.cd (es.map (Sp.dep f))<=5000:=Sp.fJ (by omega) (fun x hx=>by
     obtain⟨y,_,rfl⟩:=List.mem_map.1 hx;have:=(Sp.nM f y).2;have:=O HF;omega)
    obtain⟨M,hM⟩:∃M,M=Sp.cd (es.map (Sp.dep f)):=⟨_,rfl⟩
    rw[<- hM] at m1 m2 |-;have HM:=U hM;clear hall hM
    go_wp2_with (fail)
    go_ret;exact⟨by rw[<- O HM];rfl,hb⟩
theorem yl{f:Nat}(hS:nV f)(hf:f<=5000){F:Nat->Prop}{m n:Nat}{D:List (Lit×DataW Value)}{es:List (Lit×Sp.V)}(h:VB w b 6 n0 [] (.slice none 0 0) (.map (some m)))(ho:w.ownsMap Tryz.prog 9 RV m n (.map D))(hp:Pt (Rep f F w) D es) :
  Calls Tryz.prog 157 #[.pointer (some ⟨b,0,none⟩)] w fun e w'=>e = .returned (.int .i64 (1+Sp.cd (es.map fun p=>Sp.dep f p.2)))/\Below w.heap.size w w':=by
 have hml:=cM;have hmz:=dY;have c0:=h.c0;have c6:=h.c6;have C1:=U (hp.canon (ho.canon hml));have HP:=U hp;have HS:=U hS;have HF:=U hf;clear hp hS h hf
 go_enter func157,ntmps157
 go_wp2_with (first
  | (at_range;refine wpList_range_own _ rfl _ 109 rfl 9 80 hml underlying109 RV m n _ rfl ho ?_;intro w0 hrg0 hg0 hs0)
  | go_in)
 go_frame
 go_loopw [3] (fun dv wr=>∃ (left:Lit->Bool) (cnt:Nat) (M:Int),dv = .int .i64 M/\0<=M/\M<=Sp.cd (es.map fun p=>Sp.dep f p.2)/\wr.ranges Tryz.prog 9 RV m w.heap.size n (.map D) left cnt/\w.grownBy wr none /\
   Hid (∀k,Maps.has (.map es:DataW Unit) k=true->left k=false->Sp.dep f ((DataW.map es).atKey k .nil)<=M))
  (fun _ wr=>wr.rangeLeft m w.heap.size)
 case atStart =>
  refine⟨_,_,0,rfl,Int.le_refl _,Sp.gy _,hrg0,hg0,?_⟩;intro k hk hl;rw[(O HP).has k,hk] at hl;cases hl
 case round =>
  obtain⟨left,cnt,M,rfl,hM0,hM1,hrg,hgw,G⟩:=hrel;have HM1:=U hM1;clear hM1
  go_wp2_with (first
   | (at_next;refine wpList_next_ranges _ rfl _ rfl 9 hml RV id id (fun key _ _=>⟨key,rfl⟩) (fun v _ _=>⟨v,rfl⟩) m w.heap.size n _ _ _ rfl hrg ?_ ?_)
   | go_in)
  ·intro _ hl0;have HV:=U (show M=Sp.cd (es.map fun p=>Sp.dep f p.2) from Int.le_antisymm (O HM1) (Sp.fJ hM0 (fun x hx=>by
    obtain⟨p,hpm,rfl⟩:=List.mem_map.1 hx;exact EB (O C1) (P:=fun d=>Sp.dep f d<=M) (fun k hk=>O G k hk (hl0 k)) p hpm)))
   have m2:M<=5000:=by
    have h1:=O HM1;have h2:Sp.cd (es.map fun p=>Sp.dep f p.2)<=5000:=Sp.fJ (by omega) (fun x hx=>by
     obtain⟨y,_,rfl⟩:=List.mem_map.1 hx;have:=(Sp.nM f y.2).2;have:=O HF;omega)
    omega
   go_wp2_with (fail)
   go_ret;exact⟨by rw[<- O HV];rfl,cz hgw⟩
  ·intro x c kl yd yp w1 cnt1 hkey hlx hv hat hrg1 hlt hg1 hs1 hen;have hgw1:w.grownBy w1 none:=hgw.andThen hg1 (fun j hj=>by cases hj;exact Or.inl (Nat.le_refl _));have hv2:DataW.held c=yd:=congrArg Prod.fst (Option.some.inj hv);subst hv2;have hasD:Maps.has (.map D) kl=true:=has_true_of_atKey hat
   obtain⟨c',e1,hrep⟩:=(O HP).at kl hasD;have e2:c'=c:=by
    have e3:=(e1 .nil).symm.trans (hat .nil);injection e3
   subst e2;have hasE:Maps.has (.map es:DataW Unit) kl=true:=by rw[<- (O HP).has kl];exact hasD
   have hcall:=U (O HS F w1 c' _ (hrep.bel (cz hgw1)));have HX:=U (show Sp.dep f ((DataW.map es).atKey kl .nil)<=Sp.cd (es.map fun p=>Sp.dep f p.2) from by
    obtain⟨p,hpm,e⟩:=sf hasE;rw[e];exact Sp.lD (List.mem_map.2 ⟨p,hpm,rfl⟩))
   obtain⟨y,hy⟩:∃y,y=Sp.dep f ((DataW.map es).atKey kl .nil):=⟨_,rfl⟩
   rw[<- hy] at hcall HX;have HY:=U hy;clear hat hrep hasE e1 hasD hv hy
   go_wp2_with (fail);refine (O hcall).mono ?_
   rintro e w2 ⟨rfl,hb2⟩
   go_wp2_with (fail);have hrg2:=hrg1.kept (bW hb2) (by simp) (by simp)
   have hgw2:=hgw1.andThen (bW hb2) (fun j hj=>by cases hj)
   go_roundw
   case rel =>
    refine⟨_,cnt1,max M y,rfl,by omega,by have:=O HM1;have:=O HX;omega,hrg2,hgw2,?_⟩;intro k hk hl;cases h4:left k
    ·have:=O G k hk h4;omega
    ·have h5:(left k && !k.sameKey kl)=false:=hl;rw[h4] at h5;have:k=kl:=WideAt.sameKey_eq (by simpa using h5);subst this;have:=O HY;omega
   case measure=>rw[hrg2.left_eq,hrg.left_eq];exact hlt
end
theorem AP{f:Nat}(hS:nV f)(hf:f<=5000):nV (f+1):=by
 intro F w v a ha;obtain⟨p,rfl,_,ha⟩:=ha;rcases ha with⟨k,hk,rfl,h⟩|⟨n,rfl,h,_⟩|⟨s,rfl,h⟩|⟨es,sl,ps,rfl,h,ho,_,hal⟩|⟨es,m,n,D,rfl,h,_,ho,hp⟩
 ·exact mI h (by omega) (by omega)
 ·exact mI h (by omega) (by omega)
 ·exact mI h (by omega) (by omega)
 ·exact ym hS hf h ho hal
 ·exact yl hS hf h ho hp
theorem pV:∀f,f<=5000->nV f
 | 0,_=>fun _ _ _ _ h=>h.elim
 | f+1,h=>AP (pV f (by omega)) (by omega)
end
end Go.Proofs.YtdpomdelmdofmaaGreatDoor
