import Derived.Test.YtdpomdelmdofmaaGreatDoorRea18
open Go.World renaming cell?_of_block->AI,cell?->A6,grownBy_alloc->Bs
open Go.RowKit.Below renaming heap_alloc->AS,refl->CR
open Go.Proofs.Tryz renaming prog->AT
open Classical renaming axiomOfChoice->A1
open Go.Value renaming pointer->A2
open Go renaming results_none->A3,Value->A4,heap_alloc_new->A5,World->BY,bodyPost_ret->CH,wp_at_zero->C1,wp_at_succ->C2,Calls->Dt,maxLen->DD
open Nat renaming lt_of_lt_of_le->CD,le_trans->D0,le_refl->D1
open Go.Builtin renaming delete_->CL
open Go.DataW renaming put->Dp,del->D2
set_option maxRecDepth 100000
set_option maxHeartbeats 4000000
namespace Go.Proofs.YtdpomdelmdofmaaGreatDoor
open Go.Proofs.Tryz Go.RowKit Go.Maps
variable{m n:Nat}{D:List (Lit×DataW A4)}{pu:Option Addr}{sl:A4}
section
variable{w:BY}{b:Nat}{pth:A4}{key:By}{i:Nat}
theorem NK(hk:key.length<=1048576)(hn:n<DD)(ho:w.ownsMap AT 9 RV m n (.map D))(o:Obj):
  ∃w3,(Instr.mapUpdate 109 (.map (some m)) (.string ⟨key.toArray⟩) (.pointer pu)).run AT ((w.alloc o).drew)=.ok () w3/\w3.ownsMap AT 9 RV m (n+1) (Dp (.map D) (.string key) (.held (.pointer pu)))/\w.grownBy w3 (some m):=by
 have h0:((w.alloc o).drew).ownsMap AT 9 RV m n (.map D):=(ho.alloc o).drew;obtain⟨w3,q0,h1,h2⟩:=h0.update BE underlying109 hn (ED key hk) (val:=.pointer pu) (d:=.held (.pointer pu)) (ps:=[]) rfl;have h3:=Bs w o none;have h4:w.grownBy ((w.alloc o).drew) none:=⟨h3.os,h3.tape,h3.output,h3.size,h3.block⟩
 refine⟨w3,q0,h1,?_⟩;exact⟨h2.os.trans h4.os,h2.tape.trans h4.tape,h2.output.trans h4.output,D0 h4.size h2.size,fun j hj hne=>(h2.block j (CD hj h4.size) hne).trans (h4.block j hj (by simp))⟩
theorem Yi(hk:key.length<=1048576)(hn:n<DD)(h:VB w b 6 n0 [] (.slice none 0 0) (.map (some m)))(ho:w.ownsMap AT 9 RV m n (.map D)):
  Dt AT 250 #[plV pth b key i,.pointer pu] w fun e w'=>e=.returned (.tuple #[])/\w'.ownsMap AT 9 RV m (n+1) (Dp (.map D) (.string key) (.held (.pointer pu)))/\w.grownBy w' (some m):=by
 have q5:=h.lt;have q0:∀o,(w.alloc o).cell? ⟨b,0,none⟩=some (.int .i64 6):=fun o=>(AI (w:=w) (AS w o b q5)).trans h.c0;have q6:∀o,(w.alloc o).cell? ⟨b,6,none⟩=some (.map (some m)):=fun o=>(AI (w:=w) (AS w o b q5)).trans h.c6;have HU:=NK (pu:=pu) hk hn ho;clear h ho;obtain⟨W,hW⟩:=A1 HU;have q7:=fun o=>(hW o).1;have q4:=Ab (fun o=>(hW o).2.1);have HG:=Ab (fun o=>(hW o).2.2);clear hW HU
 go_enter func250,ntmps250
 go_wp2_with (fail)
 go_region_law (fail)
 all_goals (
  go_wp2_with (fail);exact CH (A3 rfl _ _ _) rfl ⟨rfl,Aa q4 _,Aa HG _⟩)
theorem RW(hk:key.length<=1048576)(hn:n<DD)(h:VB w b 6 n0 [] (.slice none 0 0) (.map (some m)))(ho:w.ownsMap AT 9 RV m n (.map D)):
  Dt AT 249 #[plV pth b key i,.pointer pu] w fun e w'=>e=.returned (.tuple #[])/\w'.ownsMap AT 9 RV m (n+1) (Dp (.map D) (.string key) (.held (.pointer pu)))/\w.grownBy w' (some m):=by
 have q5:=h.lt;have q0:∀o,(w.alloc o).cell? ⟨b,0,none⟩=some (.int .i64 6):=fun o=>(AI (w:=w) (AS w o b q5)).trans h.c0;have q6:∀o,(w.alloc o).cell? ⟨b,6,none⟩=some (.map (some m)):=fun o=>(AI (w:=w) (AS w o b q5)).trans h.c6;have HU:=NK (pu:=pu) hk hn ho;clear h ho;obtain⟨W,hW⟩:=A1 HU;have q7:=fun o=>(hW o).1;have q4:=Ab (fun o=>(hW o).2.1);have HG:=Ab (fun o=>(hW o).2.2);clear hW HU
 go_enter func249,ntmps249
 go_wp2_with (fail)
 go_region_law (fail)
 all_goals (
  go_wp2_with (fail);exact CH (A3 rfl _ _ _) rfl ⟨rfl,Aa q4 _,Aa HG _⟩)
end
section
variable{w:BY}{b:Nat}{pth:A4}{key:By}{i:Nat}
theorem Xh(hk:key.length<=1048576)(ho:w.ownsMap AT 9 RV m n (.map D))(x:Obj×TypeId):
  ∃w3,(CL #[109,9] x.2 #[.map (some m),.string ⟨key.toArray⟩]).run AT ((w.alloc x.1).drew)=.ok (.tuple #[]) w3/\w3.ownsMap AT 9 RV m n (D2 (.map D) (.string key))/\w.grownBy w3 (some m):=by
 have h0:((w.alloc x.1).drew).ownsMap AT 9 RV m n (.map D):=(ho.alloc x.1).drew;obtain⟨w3,q0,h1,h2⟩:=h0.drop BE underlying109 (ED key hk) x.2;have h3:=Bs w x.1 none;have h4:w.grownBy ((w.alloc x.1).drew) none:=⟨h3.os,h3.tape,h3.output,h3.size,h3.block⟩
 have h5:=h2.grown;refine⟨w3,q0,h1,?_⟩;exact⟨h5.os.trans h4.os,h5.tape.trans h4.tape,h5.output.trans h4.output,D0 h4.size h5.size,fun j hj hne=>(h5.block j (CD hj h4.size) hne).trans (h4.block j hj (by simp))⟩
theorem Rw(hk:key.length<=1048576)(h:VB w b 6 n0 [] (.slice none 0 0) (.map (some m)))(ho:w.ownsMap AT 9 RV m n (.map D)):
  Dt AT 246 #[plV pth b key i] w fun e w'=>e=.returned (.tuple #[])/\w'.ownsMap AT 9 RV m n (D2 (.map D) (.string key))/\w.grownBy w' (some m):=by
 have q5:=h.lt;have q0:∀o,(w.alloc o).cell? ⟨b,0,none⟩=some (.int .i64 6):=fun o=>(AI (w:=w) (AS w o b q5)).trans h.c0;have q6:∀o,(w.alloc o).cell? ⟨b,6,none⟩=some (.map (some m)):=fun o=>(AI (w:=w) (AS w o b q5)).trans h.c6;have HU:=Xh hk ho;clear h ho;obtain⟨W,hW⟩:=A1 HU;have q7:∀o ty,(CL #[109,9] ty #[.map (some m),.string ⟨key.toArray⟩]).run AT ((w.alloc o).drew)=.ok (.tuple #[]) (W (o,ty)):=by grind
 have q4:=Ab (fun x=>(hW x).2.1);have HG:=Ab (fun x=>(hW x).2.2);clear hW HU
 go_enter func246,ntmps246
 go_wp2_with (fail)
 go_region_law (fail)
 all_goals (
  go_wp2_with (fail);exact CH (A3 rfl _ _ _) rfl ⟨rfl,Aa q4 _,Aa HG _⟩)
end
def XD(r:Except Nat Nat):A4:=match r with
 | .ok i=>.tuple #[.int .i64 i,.int .i64 0]
 | .error c=>.tuple #[.int .i64 0,.int .i64 c]
theorem NY{w:BY}{b:Nat}{t:By}{ps:List A4}(ht:t.length<=1048576)(hr:Rng w)(h:VB w b 5 n0 [] sl (.map none))(ho:w.ownsRow 0 80 1 sl ps.length ps):
  Dt AT 244 #[.pointer (some ⟨b,0,none⟩),.string ⟨t.toArray⟩] w fun e w'=>e=.returned (XD (D4 ps.length t))/\Below w.heap.size w w':=by
 have c5:=h.c5;have hI:=Ab (Gs t w ht hr);have q0:=D6 ho;obtain⟨N,hN⟩:∃N,N=ps.length:=⟨_,rfl⟩
 obtain⟨a,c,rfl⟩:=Cx ho;obtain⟨V,hV⟩:∃V,V=XD (D4 ps.length t):=⟨_,rfl⟩
 rw[<- hV];rw[<- hN] at c5 hV q0;have q5:(N:Int)<=9223372036854775807:=by unfold DD at q0;omega
 by_cases hd:t=[45]
 ·have HV:=Ab (show V=.tuple #[.int .i64 N,.int .i64 0] by rw[hV,D4,if_pos hd];rfl);have e1:(t==[45])=true:=by grind
  have e2:(t != [45])=false:=by grind
  clear h ho hN hV hd q0
  go_enter func244,ntmps244
  go_wp2_with (fail)
  go_ret2
  exact⟨by rw[Aa HV];rfl,CR _ _⟩
 ·have e1:(t==[45])=false:=by grind
  have e2:(t != [45])=true:=by grind
  cases hi:eZ t with
  | none=>
   have HV:=Ab (show V=.tuple #[.int .i64 0,.int .i64 12] by rw[hV,D4,if_neg hd,hi];rfl);rw[hi] at hI;clear h ho hN hV hd hi q0
   go_enter func244,ntmps244
   go_wp2_with (fail);refine (Aa hI).mono ?_
   rintro e w2 ⟨rfl,hb⟩;unfold Fm
   go_wp2_with (fail)
   go_ret2
   exact⟨by rw[Aa HV];rfl,hb⟩
  | some i=>
   rw[hi] at hI;by_cases hlt:N<i
   ·have HV:=Ab (show V=.tuple #[.int .i64 0,.int .i64 11] by rw[hV,D4,if_neg hd,hi];simp only;rw[if_pos hlt];rfl);have q4:(N:Int)<(i:Int):=by omega
    clear h ho hN hV hd hi q0
    go_enter func244,ntmps244
    go_wp2_with (fail);refine (Aa hI).mono ?_
    rintro e w2 ⟨rfl,hb⟩;unfold Fm
    go_wp2_with (fail)
    go_ret2
    exact⟨by rw[Aa HV];rfl,hb⟩
   ·have HV:=Ab (show V=.tuple #[.int .i64 i,.int .i64 0] by rw[hV,D4,if_neg hd,hi];simp only;rw[if_neg hlt];rfl);have q4:¬ (N:Int)<(i:Int):=by omega
    clear h ho hN hV hd hi q0
    go_enter func244,ntmps244
    go_wp2_with (fail);refine (Aa hI).mono ?_
    rintro e w2 ⟨rfl,hb⟩;unfold Fm
    go_wp2_with (fail)
    go_ret2
    exact⟨by rw[Aa HV];rfl,hb⟩
section
attribute [local go_sem ↓] C1 C2
theorem VB.set5{w:BY}{b:Nat}{k:Int}{n:Nm}{s:By}{mp:A4}(h:VB w b k n s sl mp)(v:A4):VB (w.setCell ⟨b,5,none⟩ v) b k n s v mp:=by
 simp only[VB,World.setCell,Array.getElem?_modify];rw[if_pos trivial,show w.heap[b]? = _ from h];rfl
theorem VB.z{w:BY}{b:Nat}{k:Int}{n:Nm}{s:By}{mp:A4}(h:VB w b k n s sl mp)(o:Nat):w.frozen? ⟨b,o,none⟩=false:=by simp[World.frozen?,show w.heap[b]? = _ from h]
def EB(b:Nat)(sl:A4)(l':List (Option Addr))(w:BY)(e:Ending)(w':BY):Prop:=
 e=.returned (.tuple #[]) /\ ∃g cap,VB w' b 5 n0 [] (.slice (some ⟨g,0,none⟩) l'.length cap) (.map none)/\w'.ownsRow 0 80 1 (.slice (some ⟨g,0,none⟩) l'.length cap) l'.length (l'.map A2) /\
  (sl.ownBlock=some g\/w.heap.size<=g)/\Av (fun k=>k=b\/sl.ownBlock=some k) w w'
theorem EB.of{b:Nat}{l':List (Option Addr)}{w w1 w2:BY}{g cap:Nat}(hn:n=l'.length)(hg:b≠g)(h1:VB w1 b 5 n0 [] sl (.map none))(hB:Below w.heap.size w w1)(ho:w2.ownsRow 0 80 1 (.slice (some ⟨g,0,none⟩) n cap) n (l'.map A2))(hk:w1.grownBy w2 sl.ownBlock)(q0:sl.ownBlock≠some b)(q4:sl.ownBlock=some g\/w.heap.size<=g):
  EB b sl l' w (.returned (.tuple #[])) (w2.setCell ⟨b,5,none⟩ (.slice (some ⟨g,0,none⟩) n cap)):=by
 subst hn;have h2:VB w2 b 5 n0 [] sl (.map none):=h1.kept (hk.block b h1.lt (fun e=>q0 e.symm));refine⟨rfl,g,cap,h2.set5 _,Be ho fun k hk2=>?_,q4,?_⟩
 ·simp[Value.ownBlock] at hk2;exact Below.heap_setCell _ _ _ _ (by grind)
 ·have h3:Av (fun k=>k=b\/sl.ownBlock=some k) w w1:=Av.of_below hB;have h4:Av (fun k=>k=b\/sl.ownBlock=some k) w w2:=h3.trans (F':=fun k=>sl.ownBlock=some k) ⟨hk.os,hk.tape,hk.output,hk.size,fun k hk2 hne=>hk.block k hk2 (fun e=>hne e.symm)⟩ fun k _ h=>Or.inr h;exact h4.setCell (p:=⟨b,5,none⟩) (Or.inl (Or.inl rfl)) _
section
variable{w:BY}{b:Nat}{pth:A4}{key:By}{i:Nat}
theorem Rx{l:List (Option Addr)}(h:VB w b 5 n0 [] sl (.map none))(ho:w.ownsRow 0 80 1 sl l.length (l.map A2))(hi:i<l.length)(qf:sl.ownBlock≠some b):
  Dt AT 246 #[plV pth b key i] w (EB b sl (fC i l) w):=by
 have q9:=h.lt;have q0:∀o,(w.alloc o).cell? ⟨b,0,none⟩=some (.int .i64 5):=fun o=>(AI (w:=w) (AS w o b q9)).trans h.c0;have q5:∀o,(w.alloc o).cell? ⟨b,5,none⟩=some sl:=fun o=>(AI (w:=w) (AS w o b q9)).trans h.c5;have qm:=D6 ho;have qq:IntKind.i64.wrap ((i:Int)+1)=((i+1:Nat):Int):=by grind [fC,IntKind.wrap_i64,DD]
 have HO:=Ab ho;have HV:=Ab h;have HI:=Ab hi;have qb:=Ab qf;have q6:l.length-1=(fC i l).length:=by have:=JU hi;omega
 clear h ho hi qf qm
 go_enter func246,ntmps246
 go_wp2_with (fail);have qd:=A5 w (.cells #[pth,.pointer (some ⟨b,0,none⟩),.string ⟨key.toArray⟩,.int .i64 i] 185)
 have q8:=(CR w.heap.size w).alloc (D1 _) (.cells #[pth,.pointer (some ⟨b,0,none⟩),.string ⟨key.toArray⟩,.int .i64 i] 185);generalize w.alloc (.cells #[pth,.pointer (some ⟨b,0,none⟩),.string ⟨key.toArray⟩,.int .i64 i] 185)=wa at *;clear q0 q5;have hva:VB wa b 5 n0 [] sl (.map none):=(Aa HV).kept (q8.block b q9);have b1:wa.cell? ⟨w.heap.size,1,none⟩=some (.pointer (some ⟨b,0,none⟩)):=by simp[A6,qd]
 have b3:wa.cell? ⟨w.heap.size,3,none⟩=some (.int .i64 i):=by simp[A6,qd]
 have b5:=hva.c5;have qh:=Be (Aa HO) fun g hg=>q8.block g (Ay (Aa HO) g hg).1;obtain⟨g,cap,hsl,hc⟩:=bH (i:=i) (show (wa.drew).ownsRow 0 80 1 sl l.length (l.map A2) from qh) (Aa HI);have hsl2:sl.ownBlock=some g:=by rw[hsl];rfl
 have qe:b≠g:=fun e=>Aa qb (by grind);have qj:g<w.heap.size:=(Ay (Aa HO) g hsl2).1;have q4:w.heap.size<wa.heap.size:=by grind
 have HC:=Ab (hc.mono (R':=fun e w2=>e=.returned (.slice (some ⟨g,0,none⟩) (l.length-1) cap)/\w2.cell? ⟨w.heap.size,1,none⟩=some (.pointer (some ⟨b,0,none⟩))/\w2.cell? ⟨w.heap.size,3,none⟩=some (.int .i64 i)/\w2.cell? ⟨b,5,none⟩=some sl/\w2.frozen? ⟨b,5,none⟩=false/\EB b sl (fC i l) w (.returned (.tuple #[])) (w2.setCell ⟨b,5,none⟩ (.slice (some ⟨g,0,none⟩) (l.length-1) cap))) (by
  rintro e w2 ⟨rfl,qn,hk2⟩;have qk:w2.heap[b]? = wa.heap[b]?:=hk2.block b hva.lt (by grind);have qg:w2.heap[w.heap.size]? = wa.heap[w.heap.size]?:=hk2.block _ q4 (by grind);have qi:VB w2 b 5 n0 [] sl (.map none):=hva.kept qk;refine⟨rfl,(AI (a:=⟨w.heap.size,1,none⟩) qg).trans b1,(AI (a:=⟨w.heap.size,3,none⟩) qg).trans b3,qi.c5,qi.z 5,?_⟩;exact EB.of q6 qe hva q8 qn (by rw[hsl2];exact⟨hk2.os,hk2.tape,hk2.output,hk2.size,hk2.block⟩) (Aa qb) (Or.inl hsl2)))
 clear hc qh qd q8 hva HV HO HI qb q6 hsl2 qj q4 qe hsl;have qo:¬ w.heap.size=b:=by omega
 have qp:¬ b=w.heap.size:=by omega
 clear q9
 go_region_with (go_at_call 290;refine (Aa HC).mono ?_;rintro e w2 ⟨rfl,k1,k3,k5,kz,q7⟩;have KEND:=Ab q7;clear q7)
 all_goals exact bodyPost_end (A3 rfl _ _ _) rfl (Aa KEND)
end
end
section
attribute [local go_sem ↓] C1 C2
section
variable{w:BY}{b:Nat}{pth:A4}{key:By}{i:Nat}
theorem RX{l:List (Option Addr)}{x:Option Addr}(h:VB w b 5 n0 [] sl (.map none))(ho:w.ownsRow 0 80 1 sl l.length (l.map A2))(hi:i<=l.length)(hb:l.length<=1000000000000)(qf:sl.ownBlock≠some b):
  Dt AT 249 #[plV pth b key i,.pointer x] w (EB b sl (fN i x l) w):=by
 have q9:=h.lt;have q0:∀o,(w.alloc o).cell? ⟨b,0,none⟩=some (.int .i64 5):=fun o=>(AI (w:=w) (AS w o b q9)).trans h.c0;have q5:∀o,(w.alloc o).cell? ⟨b,5,none⟩=some sl:=fun o=>(AI (w:=w) (AS w o b q9)).trans h.c5;have HO:=Ab ho;have HV:=Ab h;have HI:=Ab hi;have q7:=Ab qf;have q6:l.length+1=(fN i x l).length:=(Hm x hi).symm;clear h ho hi qf
 go_enter func249,ntmps249
 go_wp2_with (fail);have qd:=A5 w (.cells #[pth,.pointer (some ⟨b,0,none⟩),.string ⟨key.toArray⟩,.int .i64 i] 185)
 have q8:=(CR w.heap.size w).alloc (D1 _) (.cells #[pth,.pointer (some ⟨b,0,none⟩),.string ⟨key.toArray⟩,.int .i64 i] 185);generalize w.alloc (.cells #[pth,.pointer (some ⟨b,0,none⟩),.string ⟨key.toArray⟩,.int .i64 i] 185)=wa at *;clear q0 q5;have hva:VB wa b 5 n0 [] sl (.map none):=(Aa HV).kept (q8.block b q9);have b1:wa.cell? ⟨w.heap.size,1,none⟩=some (.pointer (some ⟨b,0,none⟩)):=by simp[A6,qd]
 have b3:wa.cell? ⟨w.heap.size,3,none⟩=some (.int .i64 i):=by simp[A6,qd]
 have b5:=hva.c5;have qb:=Be (Aa HO) fun g hg=>q8.block g (Ay (Aa HO) g hg).1;have q4:w.heap.size<wa.heap.size:=by grind
 have HC:=Ab (show ∀W:BY,W.heap=(wa.alloc (.cells #[.pointer x] 80)).heap->W.os=wa.os->W.tape=wa.tape->W.output=wa.output->Dt AT 291 #[sl,.int .i64 i,.slice (some ⟨wa.heap.size,0,none⟩) 1 1] W fun e w2=>∃g cap,e=.returned (.slice (some ⟨g,0,none⟩) (l.length+1) cap)/\w2.cell? ⟨w.heap.size,1,none⟩=some (.pointer (some ⟨b,0,none⟩))/\w2.cell? ⟨w.heap.size,3,none⟩=some (.int .i64 i)/\w2.cell? ⟨b,5,none⟩=some sl/\w2.frozen? ⟨b,5,none⟩=false/\Hid (EB b sl (fN i x l) w (.returned (.tuple #[])) (w2.setCell ⟨b,5,none⟩ (.slice (some ⟨g,0,none⟩) (l.length+1) cap))) from fun W hW e1 e2 e3=>by
  have hold:∀k,k<wa.heap.size->W.heap[k]? = wa.heap[k]?:=fun k hk=>by rw[hW];exact AS wa _ k hk
  have qe:W.heap[wa.heap.size]? = some (.cells #[.pointer x] 80 (0,0)):=by rw[hW];exact A5 wa _
  have qo:wa.heap.size<W.heap.size:=by grind
  have qm:=Be (w':=W) qb fun g hg=>hold g (Ay qb g hg).1;refine (bG qm qe (fun e=>by have:=(Ay qb _ e).1;omega) (Aa HI) hb).mono ?_;rintro e w2 ⟨g,cap,rfl,qk,hk2,qn⟩;have hne:∀k,k<wa.heap.size->sl.ownBlock≠some k->w2.heap[k]? = wa.heap[k]?:=fun k hk hn=>(hk2.block k (by omega) (fun e=>hn e.symm)).trans (hold k hk);have qj:=hne b hva.lt (Aa q7);have qg:=hne w.heap.size q4 (fun e=>by have:=(Ay (Aa HO) _ e).1;omega);have qh:VB w2 b 5 n0 [] sl (.map none):=hva.kept qj;refine⟨g,cap,rfl,(AI (a:=⟨w.heap.size,1,none⟩) qg).trans b1,(AI (a:=⟨w.heap.size,3,none⟩) qg).trans b3,qh.c5,qh.z 5,?_⟩;have qi:b≠g:=fun e=>by
   rcases qn with h|h
   ·exact Aa q7 (by rw[h,e])
   omega
  refine EB.of q6 qi hva q8 qk ⟨hk2.os.trans e1,hk2.tape.trans e2,hk2.output.trans e3,by have:=hk2.size;omega,by grind⟩ (Aa q7) (by grind))
 have d1:∀o,(wa.alloc o).cell? ⟨w.heap.size,1,none⟩=some (.pointer (some ⟨b,0,none⟩)):=fun o=>(AI (a:=⟨w.heap.size,1,none⟩) (AS wa o _ q4)).trans b1;have d3:∀o,(wa.alloc o).cell? ⟨w.heap.size,3,none⟩=some (.int .i64 i):=fun o=>(AI (a:=⟨w.heap.size,3,none⟩) (AS wa o _ q4)).trans b3;have d5:∀o,(wa.alloc o).cell? ⟨b,5,none⟩=some sl:=fun o=>(AI (a:=⟨b,5,none⟩) (AS wa o _ hva.lt)).trans b5;clear qb qd q8 hva HV HO HI q7 q6;have qp:¬ w.heap.size=b:=by omega
 have qq:¬ b=w.heap.size:=by omega
 clear q9
 go_region_with (go_at_call 291;refine (Aa HC _ (by rfl) (by rfl) (by rfl) (by rfl)).mono ?_;rintro e w2 ⟨g,cap,rfl,k1,k3,k5,kz,KEND⟩)
 all_goals exact bodyPost_end (A3 rfl _ _ _) rfl (Aa KEND)
end
end
end Go.Proofs.YtdpomdelmdofmaaGreatDoor
