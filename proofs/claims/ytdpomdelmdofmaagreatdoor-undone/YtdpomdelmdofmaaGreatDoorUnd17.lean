import Derived.Test.YtdpomdelmdofmaaGreatDoorUnd16
namespace Go.Proofs.YtdpomdelmdofmaaGreatDoor
open Go.Proofs.Tryz
section
set_option maxRecDepth 100000
set_option maxHeartbeats 4000000
open Go.RowKit Go.Maps
section
variable{w:World}{b:Nat}{pth:Value}{key:Sp.By}{i:Nat}
theorem Ml{m n:Nat}{D:List (Lit×DataW Value)}{pu:Option Addr}(hk:key.length<=1048576)(hn:n<maxLen)(ho:w.ownsMap Tryz.prog 9 RV m n (.map D))(o:Obj) :
  ∃w3,(Instr.mapUpdate 109 (.map (some m)) (.string ⟨key.toArray⟩) (.pointer pu)).run Tryz.prog ((w.alloc o).drew) = .ok () w3/\w3.ownsMap Tryz.prog 9 RV m (n+1) (DataW.put (.map D) (.string key) (.held (.pointer pu)))/\w.grownBy w3 (some m):=by
 have h0:((w.alloc o).drew).ownsMap Tryz.prog 9 RV m n (.map D):=(ho.alloc o).drew;obtain⟨w3,hrun,h1,h2⟩:=h0.update Cd underlying109 hn (Fj key hk) (val:=.pointer pu) (d:=.held (.pointer pu)) (ps:=[]) rfl;have h3:=World.grownBy_alloc w o none;have h4:w.grownBy ((w.alloc o).drew) none:=⟨h3.os,h3.tape,h3.output,h3.size,h3.block⟩
 refine⟨w3,hrun,h1,?_⟩;exact⟨h2.os.trans h4.os,h2.tape.trans h4.tape,h2.output.trans h4.output,Nat.le_trans h4.size h2.size,fun j hj hne=>(h2.block j (Nat.lt_of_lt_of_le hj h4.size) hne).trans (h4.block j hj (by simp))⟩
theorem VK{m n:Nat}{D:List (Lit×DataW Value)}{pu:Option Addr}(hk:key.length<=1048576)(hn:n<maxLen)(h:VB w b 6 n0 [] (.slice none 0 0) (.map (some m)))(ho:w.ownsMap Tryz.prog 9 RV m n (.map D)) :
  Calls Tryz.prog 250 #[plV pth b key i,.pointer pu] w fun e w'=>e = .returned (.tuple #[])/\w'.ownsMap Tryz.prog 9 RV m (n+1) (DataW.put (.map D) (.string key) (.held (.pointer pu)))/\w.grownBy w' (some m):=by
 have hbl:=h.lt;have q0:∀o,(w.alloc o).cell? ⟨b,0,none⟩=some (.int .i64 6):=fun o=>(World.cell?_of_block (w:=w) (Below.heap_alloc w o b hbl)).trans h.c0;have q6:∀o,(w.alloc o).cell? ⟨b,6,none⟩=some (.map (some m)):=fun o=>(World.cell?_of_block (w:=w) (Below.heap_alloc w o b hbl)).trans h.c6;have HU:=Ml (pu:=pu) hk hn ho;clear h ho;obtain⟨W,hW⟩:=Classical.axiomOfChoice HU;have hrun:=fun o=>(hW o).1;have HOWN:=Ab (fun o=>(hW o).2.1);have HG:=Ab (fun o=>(hW o).2.2);clear hW HU
 go_enter func250,ntmps250
 go_wp2_with (fail)
 go_region_law (fail)
 all_goals (
  go_wp2_with (fail);exact bodyPost_ret (results_none rfl _ _ _) rfl ⟨rfl,Aa HOWN _,Aa HG _⟩)
theorem P4{m n:Nat}{D:List (Lit×DataW Value)}{pu:Option Addr}(hk:key.length<=1048576)(hn:n<maxLen)(h:VB w b 6 n0 [] (.slice none 0 0) (.map (some m)))(ho:w.ownsMap Tryz.prog 9 RV m n (.map D)) :
  Calls Tryz.prog 249 #[plV pth b key i,.pointer pu] w fun e w'=>e = .returned (.tuple #[])/\w'.ownsMap Tryz.prog 9 RV m (n+1) (DataW.put (.map D) (.string key) (.held (.pointer pu)))/\w.grownBy w' (some m):=by
 have hbl:=h.lt;have q0:∀o,(w.alloc o).cell? ⟨b,0,none⟩=some (.int .i64 6):=fun o=>(World.cell?_of_block (w:=w) (Below.heap_alloc w o b hbl)).trans h.c0;have q6:∀o,(w.alloc o).cell? ⟨b,6,none⟩=some (.map (some m)):=fun o=>(World.cell?_of_block (w:=w) (Below.heap_alloc w o b hbl)).trans h.c6;have HU:=Ml (pu:=pu) hk hn ho;clear h ho;obtain⟨W,hW⟩:=Classical.axiomOfChoice HU;have hrun:=fun o=>(hW o).1;have HOWN:=Ab (fun o=>(hW o).2.1);have HG:=Ab (fun o=>(hW o).2.2);clear hW HU
 go_enter func249,ntmps249
 go_wp2_with (fail)
 go_region_law (fail)
 all_goals (
  go_wp2_with (fail);exact bodyPost_ret (results_none rfl _ _ _) rfl ⟨rfl,Aa HOWN _,Aa HG _⟩)
end
end

section
set_option maxRecDepth 100000
set_option maxHeartbeats 4000000
open Go.RowKit Go.Maps
section
variable{w:World}{b:Nat}{pth:Value}{key:Sp.By}{i:Nat}
theorem UL{m n:Nat}{D:List (Lit×DataW Value)}(hk:key.length<=1048576)(ho:w.ownsMap Tryz.prog 9 RV m n (.map D))(x:Obj×TypeId) :
  ∃w3,(Builtin.delete_ #[109,9] x.2 #[.map (some m),.string ⟨key.toArray⟩]).run Tryz.prog ((w.alloc x.1).drew) = .ok (.tuple #[]) w3/\w3.ownsMap Tryz.prog 9 RV m n (DataW.del (.map D) (.string key))/\w.grownBy w3 (some m):=by
 have h0:((w.alloc x.1).drew).ownsMap Tryz.prog 9 RV m n (.map D):=(ho.alloc x.1).drew;obtain⟨w3,hrun,h1,h2⟩:=h0.drop Cd underlying109 (Fj key hk) x.2;have h3:=World.grownBy_alloc w x.1 none;have h4:w.grownBy ((w.alloc x.1).drew) none:=⟨h3.os,h3.tape,h3.output,h3.size,h3.block⟩
 have h5:=h2.grown;refine⟨w3,hrun,h1,?_⟩;exact⟨h5.os.trans h4.os,h5.tape.trans h4.tape,h5.output.trans h4.output,Nat.le_trans h4.size h5.size,fun j hj hne=>(h5.block j (Nat.lt_of_lt_of_le hj h4.size) hne).trans (h4.block j hj (by simp))⟩
theorem PI{m n:Nat}{D:List (Lit×DataW Value)}(hk:key.length<=1048576)(h:VB w b 6 n0 [] (.slice none 0 0) (.map (some m)))(ho:w.ownsMap Tryz.prog 9 RV m n (.map D)) :
  Calls Tryz.prog 246 #[plV pth b key i] w fun e w'=>e = .returned (.tuple #[])/\w'.ownsMap Tryz.prog 9 RV m n (DataW.del (.map D) (.string key))/\w.grownBy w' (some m):=by
 have hbl:=h.lt;have q0:∀o,(w.alloc o).cell? ⟨b,0,none⟩=some (.int .i64 6):=fun o=>(World.cell?_of_block (w:=w) (Below.heap_alloc w o b hbl)).trans h.c0;have q6:∀o,(w.alloc o).cell? ⟨b,6,none⟩=some (.map (some m)):=fun o=>(World.cell?_of_block (w:=w) (Below.heap_alloc w o b hbl)).trans h.c6;have HU:=UL hk ho;clear h ho;obtain⟨W,hW⟩:=Classical.axiomOfChoice HU;have hrun:∀o ty,(Builtin.delete_ #[109,9] ty #[.map (some m),.string ⟨key.toArray⟩]).run Tryz.prog ((w.alloc o).drew) = .ok (.tuple #[]) (W (o,ty)):=fun o ty=>(hW (o,ty)).1;have HOWN:=Ab (fun x=>(hW x).2.1);have HG:=Ab (fun x=>(hW x).2.2);clear hW HU
 go_enter func246,ntmps246
 go_wp2_with (fail)
 go_region_law (fail)
 all_goals (
  go_wp2_with (fail);exact bodyPost_ret (results_none rfl _ _ _) rfl ⟨rfl,Aa HOWN _,Aa HG _⟩)
end
end

section
set_option maxHeartbeats 4000000
open Go.RowKit Go.Maps
def U4(r:Except Nat Nat):Value:=match r with
 | .ok i=>.tuple #[.int .i64 i,.int .i64 0]
 | .error c=>.tuple #[.int .i64 0,.int .i64 c]
theorem Mz{w:World}{b:Nat}{t:Sp.By}{sl:Value}{ps:List Value}(ht:t.length<=1048576)(hr:Rng w)(h:VB w b 5 n0 [] sl (.map none))(ho:w.ownsRow 0 80 1 sl ps.length ps) :
  Calls Tryz.prog 244 #[.pointer (some ⟨b,0,none⟩),.string ⟨t.toArray⟩] w fun e w'=>e = .returned (U4 (Sp.C5 ps.length t))/\Below w.heap.size w w':=by
 have c5:=h.c5;have hI:=Ab (FW t w ht hr);have hmx:=DU ho;obtain⟨N,hN⟩:∃N,N=ps.length:=⟨_,rfl⟩
 obtain⟨a,c,rfl⟩:=Dt ho;obtain⟨V,hV⟩:∃V,V=U4 (Sp.C5 ps.length t):=⟨_,rfl⟩
 rw[<- hV];rw[<- hN] at c5 hV hmx;have hn1:(N:Int)<=9223372036854775807:=by unfold maxLen at hmx;omega
 by_cases hd:t=[45]
 ·have HV:=Ab (show V = .tuple #[.int .i64 N,.int .i64 0] by rw[hV,Sp.C5,if_pos hd];rfl);have e1:(t == [45])=true:=by rw[hd];rfl
  have e2:(t != [45])=false:=by rw[hd];rfl
  clear h ho hN hV hd hmx
  go_enter func244,ntmps244
  go_wp2_with (fail)
  go_ret2
  exact⟨by rw[Aa HV];rfl,Below.refl _ _⟩
 ·have e1:(t == [45])=false:=by simpa using hd
  have e2:(t != [45])=true:=by simpa using hd
  cases hi:Sp.idx t with
  | none =>
   have HV:=Ab (show V = .tuple #[.int .i64 0,.int .i64 12] by rw[hV,Sp.C5,if_neg hd,hi];rfl);rw[hi] at hI;clear h ho hN hV hd hi hmx
   go_enter func244,ntmps244
   go_wp2_with (fail);refine (Aa hI).mono ?_
   rintro e w2 ⟨rfl,hb⟩;unfold E8
   go_wp2_with (fail)
   go_ret2
   exact⟨by rw[Aa HV];rfl,hb⟩
  | some i =>
   rw[hi] at hI;by_cases hlt:N<i
   ·have HV:=Ab (show V = .tuple #[.int .i64 0,.int .i64 11] by rw[hV,Sp.C5,if_neg hd,hi];simp only;rw[if_pos hlt];rfl);have hl2:(N:Int)<(i:Int):=by omega
    clear h ho hN hV hd hi hmx
    go_enter func244,ntmps244
    go_wp2_with (fail);refine (Aa hI).mono ?_
    rintro e w2 ⟨rfl,hb⟩;unfold E8
    go_wp2_with (fail)
    go_ret2
    exact⟨by rw[Aa HV];rfl,hb⟩
   ·have HV:=Ab (show V = .tuple #[.int .i64 i,.int .i64 0] by rw[hV,Sp.C5,if_neg hd,hi];simp only;rw[if_neg hlt];rfl);have hl2:¬ (N:Int)<(i:Int):=by omega
    clear h ho hN hV hd hi hmx
    go_enter func244,ntmps244
    go_wp2_with (fail);refine (Aa hI).mono ?_
    rintro e w2 ⟨rfl,hb⟩;unfold E8
    go_wp2_with (fail)
    go_ret2
    exact⟨by rw[Aa HV];rfl,hb⟩
end

section
set_option maxRecDepth 100000
set_option maxHeartbeats 4000000
open Go.RowKit Go.Maps
attribute [local go_sem ↓] Go.wp_at_zero Go.wp_at_succ
theorem VB.set5{w:World}{b:Nat}{k:Int}{n:Sp.Nm}{s:Sp.By}{sl mp:Value}(h:VB w b k n s sl mp)(v:Value):VB (w.setCell ⟨b,5,none⟩ v) b k n s v mp:=by
 simp only[VB,World.setCell,Array.getElem?_modify];rw[if_pos trivial,show w.heap[b]? = _ from h];rfl
theorem VB.z{w:World}{b:Nat}{k:Int}{n:Sp.Nm}{s:Sp.By}{sl mp:Value}(h:VB w b k n s sl mp)(o:Nat):w.frozen? ⟨b,o,none⟩=false:=by simp[World.frozen?,show w.heap[b]? = _ from h]
def Eo(b:Nat)(sl:Value)(l':List (Option Addr))(w:World)(e:Ending)(w':World):Prop :=
 e = .returned (.tuple #[]) /\ ∃g cap,VB w' b 5 n0 [] (.slice (some ⟨g,0,none⟩) l'.length cap) (.map none)/\w'.ownsRow 0 80 1 (.slice (some ⟨g,0,none⟩) l'.length cap) l'.length (l'.map Value.pointer) /\
  (sl.ownBlock=some g\/w.heap.size<=g)/\As (fun k=>k=b\/sl.ownBlock=some k) w w'
theorem Eo.of{b:Nat}{sl:Value}{l':List (Option Addr)}{w w1 w2:World}{g cap n:Nat}(hn:n=l'.length)(hg:b≠g)(h1:VB w1 b 5 n0 [] sl (.map none))(hB:Below w.heap.size w w1)(ho:w2.ownsRow 0 80 1 (.slice (some ⟨g,0,none⟩) n cap) n (l'.map Value.pointer))(hk:w1.grownBy w2 sl.ownBlock)(hbs:sl.ownBlock≠some b)(hor:sl.ownBlock=some g\/w.heap.size<=g) :
  Eo b sl l' w (.returned (.tuple #[])) (w2.setCell ⟨b,5,none⟩ (.slice (some ⟨g,0,none⟩) n cap)):=by
 subst hn;have h2:VB w2 b 5 n0 [] sl (.map none):=h1.kept (hk.block b h1.lt (fun e=>hbs e.symm));refine⟨rfl,g,cap,h2.set5 _,AZ ho fun k hk2=>?_,hor,?_⟩
 ·simp[Value.ownBlock] at hk2;exact Below.heap_setCell _ _ _ _ (by show k≠b;omega)
 ·have h3:As (fun k=>k=b\/sl.ownBlock=some k) w w1:=As.of_below hB;have h4:As (fun k=>k=b\/sl.ownBlock=some k) w w2:=h3.trans (F':=fun k=>sl.ownBlock=some k) ⟨hk.os,hk.tape,hk.output,hk.size,fun k hk2 hne=>hk.block k hk2 (fun e=>hne e.symm)⟩ fun k _ h=>Or.inr h;exact h4.setCell (p:=⟨b,5,none⟩) (Or.inl (Or.inl rfl)) _
section
variable{w:World}{b:Nat}{pth:Value}{key:Sp.By}{i:Nat}
theorem PJ{sl:Value}{l:List (Option Addr)}(h:VB w b 5 n0 [] sl (.map none))(ho:w.ownsRow 0 80 1 sl l.length (l.map Value.pointer))(hi:i<l.length)(hbs:sl.ownBlock≠some b) :
  Calls Tryz.prog 246 #[plV pth b key i] w (Eo b sl (Sp.ldel i l) w):=by
 have hbl:=h.lt;have q0:∀o,(w.alloc o).cell? ⟨b,0,none⟩=some (.int .i64 5):=fun o=>(World.cell?_of_block (w:=w) (Below.heap_alloc w o b hbl)).trans h.c0;have q5:∀o,(w.alloc o).cell? ⟨b,5,none⟩=some sl:=fun o=>(World.cell?_of_block (w:=w) (Below.heap_alloc w o b hbl)).trans h.c5;have hmx:=DU ho;have hwr:IntKind.i64.wrap ((i:Int)+1)=((i+1:Nat):Int):=by rw[IntKind.wrap_i64];unfold maxLen at hmx;omega
 have HO:=Ab ho;have HV:=Ab h;have HI:=Ab hi;have HBS:=Ab hbs;have hlen:l.length-1=(Sp.ldel i l).length:=by have:=Sp.Jk hi;omega
 clear h ho hi hbs hmx
 go_enter func246,ntmps246
 go_wp2_with (fail);have hbx:=heap_alloc_new w (.cells #[pth,.pointer (some ⟨b,0,none⟩),.string ⟨key.toArray⟩,.int .i64 i] 185)
 have hba:=(Below.refl w.heap.size w).alloc (Nat.le_refl _) (.cells #[pth,.pointer (some ⟨b,0,none⟩),.string ⟨key.toArray⟩,.int .i64 i] 185);generalize w.alloc (.cells #[pth,.pointer (some ⟨b,0,none⟩),.string ⟨key.toArray⟩,.int .i64 i] 185)=wa at *;clear q0 q5;have hva:VB wa b 5 n0 [] sl (.map none):=(Aa HV).kept (hba.block b hbl);have b1:wa.cell? ⟨w.heap.size,1,none⟩=some (.pointer (some ⟨b,0,none⟩)):=by simp[World.cell?,hbx]
 have b3:wa.cell? ⟨w.heap.size,3,none⟩=some (.int .i64 i):=by simp[World.cell?,hbx]
 have b5:=hva.c5;have hoa:=AZ (Aa HO) fun g hg=>hba.block g (AA (Aa HO) g hg).1;obtain⟨g,cap,hsl,hc⟩:=Yp (i:=i) (show (wa.drew).ownsRow 0 80 1 sl l.length (l.map Value.pointer) from hoa) (Aa HI);have hsl2:sl.ownBlock=some g:=by rw[hsl];rfl
 have hbg:b≠g:=fun e=>Aa HBS (by rw[hsl2,e]);have hgl:g<w.heap.size:=(AA (Aa HO) g hsl2).1;have hbxl:w.heap.size<wa.heap.size:=(Array.getElem?_eq_some_iff.1 hbx).1;have HC:=Ab (hc.mono (R':=fun e w2=>e = .returned (.slice (some ⟨g,0,none⟩) (l.length-1) cap)/\w2.cell? ⟨w.heap.size,1,none⟩=some (.pointer (some ⟨b,0,none⟩))/\w2.cell? ⟨w.heap.size,3,none⟩=some (.int .i64 i)/\w2.cell? ⟨b,5,none⟩=some sl/\w2.frozen? ⟨b,5,none⟩=false/\Eo b sl (Sp.ldel i l) w (.returned (.tuple #[])) (w2.setCell ⟨b,5,none⟩ (.slice (some ⟨g,0,none⟩) (l.length-1) cap))) (by
  rintro e w2 ⟨rfl,ho2,hk2⟩;have hkb:w2.heap[b]? = wa.heap[b]?:=hk2.block b hva.lt (fun e=>hbg (Option.some.inj e));have hkx:w2.heap[w.heap.size]? = wa.heap[w.heap.size]?:=hk2.block _ hbxl (fun e=>by have:=Option.some.inj e;omega);have hv2:VB w2 b 5 n0 [] sl (.map none):=hva.kept hkb;refine⟨rfl,(World.cell?_of_block (a:=⟨w.heap.size,1,none⟩) hkx).trans b1,(World.cell?_of_block (a:=⟨w.heap.size,3,none⟩) hkx).trans b3,hv2.c5,hv2.z 5,?_⟩;exact Eo.of hlen hbg hva hba ho2 (by rw[hsl2];exact⟨hk2.os,hk2.tape,hk2.output,hk2.size,hk2.block⟩) (Aa HBS) (Or.inl hsl2)))
 clear hc hoa hbx hba hva HV HO HI HBS hlen hsl2 hgl hbxl hbg hsl;have hn1:¬ w.heap.size=b:=by omega
 have hn2:¬ b=w.heap.size:=by omega
 clear hbl
 go_region_with (go_at_call 290;refine (Aa HC).mono ?_;rintro e w2 ⟨rfl,k1,k3,k5,kz,kend⟩;have KEND:=Ab kend;clear kend)
 all_goals exact bodyPost_end (results_none rfl _ _ _) rfl (Aa KEND)
end
end

section
set_option maxRecDepth 100000
set_option maxHeartbeats 4000000
open Go.RowKit Go.Maps
attribute [local go_sem ↓] Go.wp_at_zero Go.wp_at_succ
section
variable{w:World}{b:Nat}{pth:Value}{key:Sp.By}{i:Nat}
theorem P5{sl:Value}{l:List (Option Addr)}{x:Option Addr}(h:VB w b 5 n0 [] sl (.map none))(ho:w.ownsRow 0 80 1 sl l.length (l.map Value.pointer))(hi:i<=l.length)(hb:l.length<=1000000000000)(hbs:sl.ownBlock≠some b) :
  Calls Tryz.prog 249 #[plV pth b key i,.pointer x] w (Eo b sl (Sp.lins i x l) w):=by
 have hbl:=h.lt;have q0:∀o,(w.alloc o).cell? ⟨b,0,none⟩=some (.int .i64 5):=fun o=>(World.cell?_of_block (w:=w) (Below.heap_alloc w o b hbl)).trans h.c0;have q5:∀o,(w.alloc o).cell? ⟨b,5,none⟩=some sl:=fun o=>(World.cell?_of_block (w:=w) (Below.heap_alloc w o b hbl)).trans h.c5;have HO:=Ab ho;have HV:=Ab h;have HI:=Ab hi;have HBS:=Ab hbs;have hlen:l.length+1=(Sp.lins i x l).length:=(Sp.GH x hi).symm;clear h ho hi hbs
 go_enter func249,ntmps249
 go_wp2_with (fail);have hbx:=heap_alloc_new w (.cells #[pth,.pointer (some ⟨b,0,none⟩),.string ⟨key.toArray⟩,.int .i64 i] 185)
 have hba:=(Below.refl w.heap.size w).alloc (Nat.le_refl _) (.cells #[pth,.pointer (some ⟨b,0,none⟩),.string ⟨key.toArray⟩,.int .i64 i] 185);generalize w.alloc (.cells #[pth,.pointer (some ⟨b,0,none⟩),.string ⟨key.toArray⟩,.int .i64 i] 185)=wa at *;clear q0 q5;have hva:VB wa b 5 n0 [] sl (.map none):=(Aa HV).kept (hba.block b hbl);have b1:wa.cell? ⟨w.heap.size,1,none⟩=some (.pointer (some ⟨b,0,none⟩)):=by simp[World.cell?,hbx]
 have b3:wa.cell? ⟨w.heap.size,3,none⟩=some (.int .i64 i):=by simp[World.cell?,hbx]
 have b5:=hva.c5;have hoa:=AZ (Aa HO) fun g hg=>hba.block g (AA (Aa HO) g hg).1;have hbxl:w.heap.size<wa.heap.size:=(Array.getElem?_eq_some_iff.1 hbx).1;have HC:=Ab (show ∀W:World,W.heap=(wa.alloc (.cells #[.pointer x] 80)).heap->W.os=wa.os->W.tape=wa.tape->W.output=wa.output->Calls Tryz.prog 291 #[sl,.int .i64 i,.slice (some ⟨wa.heap.size,0,none⟩) 1 1] W fun e w2=>∃g cap,e = .returned (.slice (some ⟨g,0,none⟩) (l.length+1) cap)/\w2.cell? ⟨w.heap.size,1,none⟩=some (.pointer (some ⟨b,0,none⟩))/\w2.cell? ⟨w.heap.size,3,none⟩=some (.int .i64 i)/\w2.cell? ⟨b,5,none⟩=some sl/\w2.frozen? ⟨b,5,none⟩=false/\Hid (Eo b sl (Sp.lins i x l) w (.returned (.tuple #[])) (w2.setCell ⟨b,5,none⟩ (.slice (some ⟨g,0,none⟩) (l.length+1) cap))) from fun W hW e1 e2 e3=>by
  have hold:∀k,k<wa.heap.size->W.heap[k]? = wa.heap[k]?:=fun k hk=>by rw[hW];exact Below.heap_alloc wa _ k hk
  have hnew:W.heap[wa.heap.size]? = some (.cells #[.pointer x] 80 (0,0)):=by rw[hW];exact heap_alloc_new wa _
  have hWs:wa.heap.size<W.heap.size:=(Array.getElem?_eq_some_iff.1 hnew).1;have hoW:=AZ (w':=W) hoa fun g hg=>hold g (AA hoa g hg).1;refine (Yo hoW hnew (fun e=>by have:=(AA hoa _ e).1;omega) (Aa HI) hb).mono ?_;rintro e w2 ⟨g,cap,rfl,ho2,hk2,hor⟩;have hne:∀k,k<wa.heap.size->sl.ownBlock≠some k->w2.heap[k]? = wa.heap[k]?:=fun k hk hn=>(hk2.block k (by omega) (fun e=>hn e.symm)).trans (hold k hk);have hkb:=hne b hva.lt (Aa HBS);have hkx:=hne w.heap.size hbxl (fun e=>by have:=(AA (Aa HO) _ e).1;omega);have hv2:VB w2 b 5 n0 [] sl (.map none):=hva.kept hkb;refine⟨g,cap,rfl,(World.cell?_of_block (a:=⟨w.heap.size,1,none⟩) hkx).trans b1,(World.cell?_of_block (a:=⟨w.heap.size,3,none⟩) hkx).trans b3,hv2.c5,hv2.z 5,?_⟩;have hbg:b≠g:=fun e=>by
   rcases hor with h|h
   ·exact Aa HBS (by rw[h,e])
   ·have:=hva.lt;omega
  refine Eo.of hlen hbg hva hba ho2 ⟨hk2.os.trans e1,hk2.tape.trans e2,hk2.output.trans e3,by have:=hk2.size;omega,fun k hk hn=>hne k hk (fun e=>hn e.symm)⟩ (Aa HBS) (hor.imp id fun h=>by have:=hba.size;omega))
 have d1:∀o,(wa.alloc o).cell? ⟨w.heap.size,1,none⟩=some (.pointer (some ⟨b,0,none⟩)):=fun o=>(World.cell?_of_block (a:=⟨w.heap.size,1,none⟩) (Below.heap_alloc wa o _ hbxl)).trans b1;have d3:∀o,(wa.alloc o).cell? ⟨w.heap.size,3,none⟩=some (.int .i64 i):=fun o=>(World.cell?_of_block (a:=⟨w.heap.size,3,none⟩) (Below.heap_alloc wa o _ hbxl)).trans b3;have d5:∀o,(wa.alloc o).cell? ⟨b,5,none⟩=some sl:=fun o=>(World.cell?_of_block (a:=⟨b,5,none⟩) (Below.heap_alloc wa o _ hva.lt)).trans b5;clear hoa hbx hba hva HV HO HI HBS hlen;have hn1:¬ w.heap.size=b:=by omega
 have hn2:¬ b=w.heap.size:=by omega
 clear hbl
 go_region_with (go_at_call 291;refine (Aa HC _ (by rfl) (by rfl) (by rfl) (by rfl)).mono ?_;rintro e w2 ⟨g,cap,rfl,k1,k3,k5,kz,KEND⟩)
 all_goals exact bodyPost_end (results_none rfl _ _ _) rfl (Aa KEND)
end
end

section
set_option maxHeartbeats 8000000
set_option maxRecDepth 100000
open Go.RowKit Go.Maps
namespace Sp
theorem ED:∀l,0<=BT l
 | []=>Int.le_refl _
 | x::r=>by have:=ED r;simp only[BT];omega
theorem LH(x:Int):∀l,BT (l++[x])=max (BT l) x
 | []=>by simp only[List.nil_append,BT];omega
 | y::r=>by have:=LH x r;simp only[List.cons_append,BT];omega
theorem D9{m:Int}(h0:0<=m):∀ {l:List Int},(∀x∈l,x<=m)->BT l<=m
 | [],_=>h0
 | x::r,h=>by
  have h1:=h x (by simp);have h2:=D9 h0 (l:=r) (fun y hy=>h y (by simp[hy]));simp only[BT];omega
theorem Is{x:Int}:∀ {l:List Int},x∈l->x<=BT l
 | y::r,h=>by
  rcases List.mem_cons.1 h with rfl|h
  ·simp only[BT];omega
  ·have:=Is h;simp only[BT];omega
theorem Pi(f:Nat)(es:List V):dep (f+1) (Ar es)=1+BT (es.map (dep f)):=rfl
theorem Ph(f:Nat)(es:List (Lit×V)):dep (f+1) (Av es)=1+BT (es.map fun p=>dep f p.2):=rfl
theorem Kg:∀ (f:Nat) (d:V),0<=dep f d/\dep f d<=f
 | 0,_=>⟨Int.le_refl _,Int.le_refl _⟩
 | f+1,d=>by
  unfold dep;split
  ·rename_i es _;have h1:=ED (es.map (dep f));have h2:=D9 (m:=f) (by omega) (l:=es.map (dep f)) (fun x hx=>by
    obtain⟨y,_,rfl⟩:=List.mem_map.1 hx;exact (Kg f y).2)
   omega
  ·rename_i es;have h1:=ED (es.map fun p=>dep f p.2);have h2:=D9 (m:=f) (by omega) (l:=es.map fun p=>dep f p.2) (fun x hx=>by
    obtain⟨y,_,rfl⟩:=List.mem_map.1 hx;exact (Kg f y.2).2)
   omega
  ·omega
end Sp
theorem NN{es:List (Lit×Sp.V)}{k:Lit}(h:Maps.has (.map es:DataW Unit) k=true):∃p∈es,(DataW.map es).atKey k .nil=p.2:=by
 rw[B8];cases hf:es.find? (fun p=>p.1.sameKey k) with
 | none =>
  obtain⟨p,hp,hs⟩:=List.any_eq_true.1 (show es.any (fun p=>p.1.sameKey k)=true from h);exact absurd hs (by simpa using List.find?_eq_none.1 hf p hp)
 | some p=>exact⟨p,List.mem_of_find?_eq_some hf,rfl⟩
theorem Yc{es:List (Lit×Sp.V)}(c:Maps.Canon (.map es:DataW Unit)){P:Sp.V->Prop}(h:∀k,Maps.has (.map es:DataW Unit) k=true->P ((DataW.map es).atKey k .nil)):∀p∈es,P p.2:=by
 obtain⟨_,he,hp,hk⟩:=c;injection he with he;subst he;intro p hpm;have h1:=h p.1 (List.any_eq_true.2 ⟨p,hpm,WideAt.sameKey_self (hk p hpm)⟩)
 rwa [WideAt.atKey_mem .nil (hk p hpm) (apart_of_rising hp) (show (p.1,p.2)∈es from hpm)] at h1
def Kp(f:Nat):Prop:=∀ (F:Nat->Prop) (w:World) (v:Value) (a:Sp.V),Rep f F w v a->Calls Tryz.prog 157 #[v] w fun e w'=>e = .returned (.int .i64 (Sp.dep f a))/\Below w.heap.size w w'
section
variable{w:World}{b:Nat}
theorem Ju{k:Int}{n:Sp.Nm}{s:Sp.By}{sl mp:Value}(h:VB w b k n s sl mp)(h5:k≠5)(h6:k≠6) :
  Calls Tryz.prog 157 #[.pointer (some ⟨b,0,none⟩)] w fun e w'=>e = .returned (.int .i64 1)/\Below w.heap.size w w':=by
 have c0:=h.c0;have e5:(k == 5)=false:=beq_eq_false_iff_ne.2 h5;have e6:(k == 6)=false:=beq_eq_false_iff_ne.2 h6;clear h h5 h6
 go_enter func157,ntmps157
 go_wp2_with (fail)
 go_ret;exact⟨rfl,Below.refl _ _⟩
theorem Sw{f:Nat}(hS:Kp f)(hf:f<=5000){F:Nat->Prop}{sl:Value}{ps:List Value}{es:List Sp.V}(h:VB w b 5 n0 [] sl (.map none))(ho:w.ownsRow 0 80 1 sl ps.length ps)(ha:Al (Rep f F w) ps es) :
  Calls Tryz.prog 157 #[.pointer (some ⟨b,0,none⟩)] w fun e w'=>e = .returned (.int .i64 (1+Sp.BT (es.map (Sp.dep f))))/\Below w.heap.size w w':=by
 have c0:=h.c0;have c5:=h.c5;have hl:=ha.length;have hmx:=DU ho;obtain⟨N,hN⟩:∃N,N=ps.length:=⟨_,rfl⟩
 have hn1:(N:Int)<=9223372036854775807:=by unfold maxLen at hmx;omega
 by_cases h0:N=0
 ·obtain⟨a,c,rfl⟩:=Hf ho (by omega);have e1:es=[]:=List.eq_nil_of_length_eq_zero (by omega);subst e1;clear h ho ha hl hS hN hmx
  go_enter func157,ntmps157
  go_wp2_with (fail);refine wp_loop_rounds 1 ?_
  rw[rounds_succ]
  go_wp2_with (fail)
  go_ret;exact⟨rfl,Below.refl _ _⟩
 ·obtain⟨g1,p1,rfl,a1,b1,l1,hc1⟩:=BF ho (by omega);have HC1:=Ab hc1;have HA:=Ab ha;have HS:=Ab hS;have HN:=Ab hN;have HL:=Ab hl;have HF:=Ab hf;rw[<- hN] at a1 c5;clear h ho ha hl hS hN hc1 h0 hmx hf
  go_enter func157,ntmps157
  go_wp2_with (fail)
  go_loopw [3,19] (fun dv i wr=>∃k:Nat,k<=N/\i = .int .i64 k/\dv = .int .i64 (Sp.BT ((es.map (Sp.dep f)).take k))/\Below w.heap.size w wr) (fun _ i _=>N-(intOf i).toNat)
  case atStart=>exact⟨0,by omega,rfl,rfl,Below.refl _ _⟩
  case round =>
   obtain⟨k,hk,rfl,rfl,hb⟩:=hrel;have HB:=Ab hb;by_cases hlt:k<N
   ·have h1:k<ps.length:=by have:=Aa HN;omega
    have h3:k<es.length:=by have:=Aa HL;omega
    have q1:=(hb.cell (p:=⟨g1,k,none⟩) l1).trans (Aa HC1 k h1);have hcall:=Ab (Aa HS F wr ps[k] es[k] (((Aa HA).get k h1 h3).bel hb));have HST:=Ab (show Sp.BT ((es.map (Sp.dep f)).take (k+1))=max (Sp.BT ((es.map (Sp.dep f)).take k)) (Sp.dep f es[k]) from by
     rw[List.take_succ_eq_append_getElem (by simpa using h3),Sp.LH,List.getElem_map])
    generalize ps[k]=pk at *;generalize Sp.BT ((es.map (Sp.dep f)).take k)=M at *;generalize Sp.dep f es[k]=x at *;clear hb
    go_wp2_with (fail);refine (Aa hcall).mono ?_
    rintro e w2 ⟨rfl,hb2⟩;have HB2:=Ab ((Aa HB).trans (hb2.mono (Aa HB).size));clear hb2 hcall
    go_wp2_with (fail);exact⟨⟨k+1,by omega,by go_num,by rw[Aa HST],Aa HB2⟩,by simp only[intOf];omega⟩
   ·have hall:(es.map (Sp.dep f)).take k=es.map (Sp.dep f):=List.take_of_length_le (by have:=Aa HN;have:=Aa HL;simp only[List.length_map];omega);rw[hall];have m1:=Sp.ED (es.map (Sp.dep f));have m2:Sp.BT (es.map (Sp.dep f))<=5000:=Sp.D9 (by omega) (fun x hx=>by
     obtain⟨y,_,rfl⟩:=List.mem_map.1 hx;have:=(Sp.Kg f y).2;have:=Aa HF;omega)
    obtain⟨M,hM⟩:∃M,M=Sp.BT (es.map (Sp.dep f)):=⟨_,rfl⟩
    rw[<- hM] at m1 m2 |-;have HM:=Ab hM;clear hall hM
    go_wp2_with (fail)
    go_ret;exact⟨by rw[<- Aa HM];rfl,hb⟩
theorem Sv{f:Nat}(hS:Kp f)(hf:f<=5000){F:Nat->Prop}{m n:Nat}{D:List (Lit×DataW Value)}{es:List (Lit×Sp.V)}(h:VB w b 6 n0 [] (.slice none 0 0) (.map (some m)))(ho:w.ownsMap Tryz.prog 9 RV m n (.map D))(hp:Pt (Rep f F w) D es) :
  Calls Tryz.prog 157 #[.pointer (some ⟨b,0,none⟩)] w fun e w'=>e = .returned (.int .i64 (1+Sp.BT (es.map fun p=>Sp.dep f p.2)))/\Below w.heap.size w w':=by
 have hml:=Cd;have hmz:=C9;have c0:=h.c0;have c6:=h.c6;have C1:=Ab (hp.canon (ho.canon hml));have HP:=Ab hp;have HS:=Ab hS;have HF:=Ab hf;clear hp hS h hf
 go_enter func157,ntmps157
 go_wp2_with (first
  | (at_range;refine wpList_range_own _ rfl _ 109 rfl 9 80 hml underlying109 RV m n _ rfl ho ?_;intro w0 hrg0 hg0 hs0)
  | go_in)
 go_frame
 go_loopw [3] (fun dv wr=>∃ (left:Lit->Bool) (cnt:Nat) (M:Int),dv = .int .i64 M/\0<=M/\M<=Sp.BT (es.map fun p=>Sp.dep f p.2)/\wr.ranges Tryz.prog 9 RV m w.heap.size n (.map D) left cnt/\w.grownBy wr none /\
   Hid (∀k,Maps.has (.map es:DataW Unit) k=true->left k=false->Sp.dep f ((DataW.map es).atKey k .nil)<=M))
  (fun _ wr=>wr.rangeLeft m w.heap.size)
 case atStart =>
  refine⟨_,_,0,rfl,Int.le_refl _,Sp.ED _,hrg0,hg0,?_⟩;intro k hk hl;rw[(Aa HP).has k,hk] at hl;cases hl
 case round =>
  obtain⟨left,cnt,M,rfl,hM0,hM1,hrg,hgw,G⟩:=hrel;have HM1:=Ab hM1;clear hM1
  go_wp2_with (first
   | (at_next;refine wpList_next_ranges _ rfl _ rfl 9 hml RV id id (fun key _ _=>⟨key,rfl⟩) (fun v _ _=>⟨v,rfl⟩) m w.heap.size n _ _ _ rfl hrg ?_ ?_)
   | go_in)
  ·intro _ hl0;have HV:=Ab (show M=Sp.BT (es.map fun p=>Sp.dep f p.2) from Int.le_antisymm (Aa HM1) (Sp.D9 hM0 (fun x hx=>by
    obtain⟨p,hpm,rfl⟩:=List.mem_map.1 hx;exact Yc (Aa C1) (P:=fun d=>Sp.dep f d<=M) (fun k hk=>Aa G k hk (hl0 k)) p hpm)))
   have m2:M<=5000:=by
    have h1:=Aa HM1;have h2:Sp.BT (es.map fun p=>Sp.dep f p.2)<=5000:=Sp.D9 (by omega) (fun x hx=>by
     obtain⟨y,_,rfl⟩:=List.mem_map.1 hx;have:=(Sp.Kg f y.2).2;have:=Aa HF;omega)
    omega
   go_wp2_with (fail)
   go_ret;exact⟨by rw[<- Aa HV];rfl,B3 hgw⟩
  ·intro x c kl yd yp w1 cnt1 hkey hlx hv hat hrg1 hlt hg1 hs1 hen;have hgw1:w.grownBy w1 none:=hgw.andThen hg1 (fun j hj=>by cases hj;exact Or.inl (Nat.le_refl _));have hv2:DataW.held c=yd:=congrArg Prod.fst (Option.some.inj hv);subst hv2;have hasD:Maps.has (.map D) kl=true:=has_true_of_atKey hat
   obtain⟨c',e1,hrep⟩:=(Aa HP).at kl hasD;have e2:c'=c:=by
    have e3:=(e1 .nil).symm.trans (hat .nil);injection e3
   subst e2;have hasE:Maps.has (.map es:DataW Unit) kl=true:=by rw[<- (Aa HP).has kl];exact hasD
   have hcall:=Ab (Aa HS F w1 c' _ (hrep.bel (B3 hgw1)));have HX:=Ab (show Sp.dep f ((DataW.map es).atKey kl .nil)<=Sp.BT (es.map fun p=>Sp.dep f p.2) from by
    obtain⟨p,hpm,e⟩:=NN hasE;rw[e];exact Sp.Is (List.mem_map.2 ⟨p,hpm,rfl⟩))
   obtain⟨y,hy⟩:∃y,y=Sp.dep f ((DataW.map es).atKey kl .nil):=⟨_,rfl⟩
   rw[<- hy] at hcall HX;have HY:=Ab hy;clear hat hrep hasE e1 hasD hv hy
   go_wp2_with (fail);refine (Aa hcall).mono ?_
   rintro e w2 ⟨rfl,hb2⟩
   go_wp2_with (fail);have hrg2:=hrg1.kept (BK hb2) (by simp) (by simp)
   have hgw2:=hgw1.andThen (BK hb2) (fun j hj=>by cases hj)
   go_roundw
   case rel =>
    refine⟨_,cnt1,max M y,rfl,by omega,by have:=Aa HM1;have:=Aa HX;omega,hrg2,hgw2,?_⟩;intro k hk hl;cases h4:left k
    ·have:=Aa G k hk h4;omega
    ·have h5:(left k && !k.sameKey kl)=false:=hl;rw[h4] at h5;have:k=kl:=WideAt.sameKey_eq (by simpa using h5);subst this;have:=Aa HY;omega
   case measure=>rw[hrg2.left_eq,hrg.left_eq];exact hlt
end
theorem UK{f:Nat}(hS:Kp f)(hf:f<=5000):Kp (f+1):=by
 intro F w v a ha;obtain⟨p,rfl,_,ha⟩:=ha;rcases ha with⟨k,hk,rfl,h⟩|⟨n,rfl,h,_⟩|⟨s,rfl,h⟩|⟨es,sl,ps,rfl,h,ho,_,hal⟩|⟨es,m,n,D,rfl,h,_,ho,hp⟩
 ·exact Ju h (by omega) (by omega)
 ·exact Ju h (by omega) (by omega)
 ·exact Ju h (by omega) (by omega)
 ·exact Sw hS hf h ho hal
 ·exact Sv hS hf h ho hp
theorem LT:∀f,f<=5000->Kp f
 | 0,_=>fun _ _ _ _ h=>h.elim
 | f+1,h=>UK (LT f (by omega)) (by omega)
end
end Go.Proofs.YtdpomdelmdofmaaGreatDoor
