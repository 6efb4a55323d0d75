import Derived.Test.YtdpomdelmdofmaaGreatDoorPfx24
open Go.World renaming cell?_of_block->AI,grownBy_alloc->A2,cell?->D0
open Go.RowKit.Below renaming heap_alloc->AS,refl->CL
open Go.Proofs.Tryz renaming prog->AT
open Classical renaming axiomOfChoice->A1
open Go renaming results_none->A3,Value->A4,bodyPost_ret->Bs,maxLen->BY,World->CD,Calls->CR
open Go.Value renaming pointer->A5,ownBlock->C1
open Nat renaming lt_of_lt_of_le->A6,le_trans->Dt,le_refl->DD
open Go.Builtin renaming delete_->CH
open Go.DataW renaming put->C2,del->D1
open Go.Instr renaming lookup->Dp
set_option maxRecDepth 100000
set_option maxHeartbeats 4000000
namespace Go.Proofs.YtdpomdelmdofmaaGreatDoor
open Go.Proofs.Tryz Go.RowKit Go.Maps
variable{m n b:Nat}{D:List (Lit×DataW A4)}{sl:A4}{ps:List A4}{pu:Option Addr}{w:CD}
abbrev plV(pth:A4)(b:Nat)(key:By)(i:Nat):A4:=.agg #[pth,.pointer (some ⟨b,0,none⟩),.string ⟨key.toArray⟩,.int .i64 i]
theorem Lz(w:CD)(o:Obj)(q:Nat):Below w.heap.size w ((w.alloc o).drewN q):=by
 have h:=(CL w.heap.size w).alloc (DD _) o;exact⟨h.os,h.tape,h.output,h.size,h.block⟩
section
variable{w:CD}{b:Nat}{pth:A4}{key:By}{i:Nat}
theorem Pd(hk:key.length<=1048576)(h:VB w b 6 n0 [] (.slice none 0 0) (.map (some m)))(ho:w.ownsMap AT 9 RV m n (.map D)){x:A4}(hx:(DataW.map D).atKey (.string key) (.held (.pointer none))=.held x):
  CR AT 159 #[plV pth b key i] w fun e w'=>e=.returned x/\Below w.heap.size w w':=by
 have q5:=h.lt;have q0:∀o,(w.alloc o).cell? ⟨b,0,none⟩=some (.int .i64 6):=fun o=>(AI (w:=w) (AS w o b q5)).trans h.c0;have q6:∀o,(w.alloc o).cell? ⟨b,6,none⟩=some (.map (some m)):=fun o=>(AI (w:=w) (AS w o b q5)).trans h.c6;have q7:∀o q,(Dp 109 (.map (some m)) (.string ⟨key.toArray⟩) false).run AT ((w.alloc o).drewN q)=.ok x ((w.alloc o).drewN q):=fun o q=>by
  obtain⟨v,ps,q4,hv⟩:=(Aj (w':=(w.alloc o).drewN q) ho (AS w o m (A7 ho))).lookup Bw underlying109 (B0 _) (zd:=.held (.pointer none)) (zp:=[]) rfl (Ee key hk);rw[hx] at hv;obtain⟨rfl,_⟩:=Cb hv rfl;exact q4
 have hl0:∀o,(Dp 109 (.map (some m)) (.string ⟨key.toArray⟩) false).run AT (w.alloc o)=.ok x (w.alloc o):=fun o=>q7 o 0;clear h ho hx
 go_enter func159,ntmps159
 go_wp2_with (fail)
 go_quiet (fail)
 go_wp2_with (fail)
 go_ret;exact⟨rfl,Lz _ _ _⟩
theorem WA(h:VB w b 5 n0 [] sl (.map none))(ho:w.ownsRow 0 80 1 sl ps.length ps)(hi:i<ps.length):
  CR AT 159 #[plV pth b key i] w fun e w'=>e=.returned ps[i]/\Below w.heap.size w w':=by
 have q4:=h.lt;have q0:∀o,(w.alloc o).cell? ⟨b,0,none⟩=some (.int .i64 5):=fun o=>(AI (w:=w) (AS w o b q4)).trans h.c0;have q5:∀o,(w.alloc o).cell? ⟨b,5,none⟩=some sl:=fun o=>(AI (w:=w) (AS w o b q4)).trans h.c5;obtain⟨N,hN⟩:∃N,N=ps.length:=⟨_,rfl⟩
 obtain⟨g,cap,rfl,a1,a2,a3,hc⟩:=Bh ho (by omega);have qi:∀o,(w.alloc o).cell? ⟨g,i,none⟩=some ps[i]:=fun o=>(AI (w:=w) (AS w o g a3)).trans (hc i hi);rw[<- hN] at q5 a1;have hlt:i<N:=by omega
 have q6:(i:Int)<(N:Int):=by omega
 have q7:(N:Int)<=9223372036854775807:=by unfold BY at a2;omega
 generalize ps[i]=pv at *;clear h ho hc hN hi
 go_enter func159,ntmps159
 go_wp2_with (fail)
 go_quiet (fail)
 go_wp2_with (fail)
 go_ret;exact⟨rfl,Lz _ _ _⟩
theorem VP(h:VB w b 5 n0 [] sl (.map none))(ho:w.ownsRow 0 80 1 sl ps.length ps)(hi:i<ps.length):
  CR AT 250 #[plV pth b key i,.pointer pu] w fun e w'=>e=.returned (.tuple #[]) /\ ∃g,sl.ownBlock=some g/\w'.ownsRow 0 80 1 sl ps.length (ps.set i (.pointer pu))/\w.grownBy w' (some g):=by
 have q6:=h.lt;have q0:∀o,(w.alloc o).cell? ⟨b,0,none⟩=some (.int .i64 5):=fun o=>(AI (w:=w) (AS w o b q6)).trans h.c0;have q5:∀o,(w.alloc o).cell? ⟨b,5,none⟩=some sl:=fun o=>(AI (w:=w) (AS w o b q6)).trans h.c5;obtain⟨N,hN⟩:∃N,N=ps.length:=⟨_,rfl⟩
 obtain⟨g,cap,rfl,a1,a2,a3,hc⟩:=Bh ho (by omega);have qi:∀o,(w.alloc o).cell? ⟨g,i,none⟩=some ps[i]:=fun o=>(AI (w:=w) (AS w o g a3)).trans (hc i hi);have zi:∀o,(w.alloc o).frozen? ⟨g,i,none⟩=false:=fun o=>(ho.alloc o).frozenAt i;have q4:Hid (∀o,C1 (.slice (some ⟨g,0,none⟩) ps.length cap)=some g/\(((w.setCell ⟨g,i,none⟩ (.pointer pu)).alloc o).drew).ownsRow 0 80 1 (.slice (some ⟨g,0,none⟩) ps.length cap) ps.length (ps.set i (.pointer pu))/\w.grownBy (((w.setCell ⟨g,i,none⟩ (.pointer pu)).alloc o).drew) (some g)):=Ab (fun o=>by
  have h1:=ho.stored i (.pointer pu);have h3:=h1.2.andThen (A2 (w.setCell ⟨g,i,none⟩ (.pointer pu)) o none) (fun j hj=>by cases hj);exact⟨rfl,h1.1.alloc o,⟨h3.os,h3.tape,h3.output,h3.size,h3.block⟩⟩)
 have q9:∀o q,((w.alloc o).drewN q).cell? ⟨g,i,none⟩=some ps[i]:=fun o _=>qi o;have qb:∀o q,((w.alloc o).drewN q).frozen? ⟨g,i,none⟩=false:=fun o _=>zi o;have q8:∀o,((w.alloc o).drew).cell? ⟨g,i,none⟩=some ps[i]:=fun o=>qi o;have qe:∀o,((w.alloc o).drew).frozen? ⟨g,i,none⟩=false:=fun o=>zi o;have hlt:i<N:=by omega
 have q7:(i:Int)<(N:Int):=by omega
 have qd:(N:Int)<=9223372036854775807:=by unfold BY at a2;omega
 rw[<- hN] at q5 a1 q4 |-;generalize ps[i]=pv at *;clear h ho hc hN hi
 go_enter func250,ntmps250
 go_wp2_with (fail)
 go_region_law (fail)
 all_goals exact bodyPost_end (A3 rfl _ _ _) rfl ⟨rfl,g,Aa q4 _⟩
end
section
variable{w:CD}{b:Nat}{pth:A4}{key:By}{i:Nat}
theorem Md(hk:key.length<=1048576)(hn:n<BY)(ho:w.ownsMap AT 9 RV m n (.map D))(o:Obj):
  ∃w3,(Instr.mapUpdate 109 (.map (some m)) (.string ⟨key.toArray⟩) (.pointer pu)).run AT ((w.alloc o).drew)=.ok () w3/\w3.ownsMap AT 9 RV m (n+1) (C2 (.map D) (.string key) (.held (.pointer pu)))/\w.grownBy w3 (some m):=by
 have h0:((w.alloc o).drew).ownsMap AT 9 RV m n (.map D):=(ho.alloc o).drew;obtain⟨w3,q0,h1,h2⟩:=h0.update Bw underlying109 hn (Ee key hk) (val:=.pointer pu) (d:=.held (.pointer pu)) (ps:=[]) rfl;have h3:=A2 w o none;have h4:w.grownBy ((w.alloc o).drew) none:=⟨h3.os,h3.tape,h3.output,h3.size,h3.block⟩
 refine⟨w3,q0,h1,?_⟩;exact⟨h2.os.trans h4.os,h2.tape.trans h4.tape,h2.output.trans h4.output,Dt h4.size h2.size,fun j hj q4=>(h2.block j (A6 hj h4.size) q4).trans (h4.block j hj (by simp))⟩
theorem VO(hk:key.length<=1048576)(hn:n<BY)(h:VB w b 6 n0 [] (.slice none 0 0) (.map (some m)))(ho:w.ownsMap AT 9 RV m n (.map D)):
  CR AT 250 #[plV pth b key i,.pointer pu] w fun e w'=>e=.returned (.tuple #[])/\w'.ownsMap AT 9 RV m (n+1) (C2 (.map D) (.string key) (.held (.pointer pu)))/\w.grownBy w' (some m):=by
 have q5:=h.lt;have q0:∀o,(w.alloc o).cell? ⟨b,0,none⟩=some (.int .i64 6):=fun o=>(AI (w:=w) (AS w o b q5)).trans h.c0;have q6:∀o,(w.alloc o).cell? ⟨b,6,none⟩=some (.map (some m)):=fun o=>(AI (w:=w) (AS w o b q5)).trans h.c6;have HU:=Md (pu:=pu) hk hn ho;clear h ho;obtain⟨W,hW⟩:=A1 HU;have q7:=fun o=>(hW o).1;have q4:=Ab (fun o=>(hW o).2.1);have HG:=Ab (fun o=>(hW o).2.2);clear hW HU
 go_enter func250,ntmps250
 go_wp2_with (fail)
 go_region_law (fail)
 all_goals (
  go_wp2_with (fail);exact Bs (A3 rfl _ _ _) rfl ⟨rfl,Aa q4 _,Aa HG _⟩)
theorem P7(hk:key.length<=1048576)(hn:n<BY)(h:VB w b 6 n0 [] (.slice none 0 0) (.map (some m)))(ho:w.ownsMap AT 9 RV m n (.map D)):
  CR AT 249 #[plV pth b key i,.pointer pu] w fun e w'=>e=.returned (.tuple #[])/\w'.ownsMap AT 9 RV m (n+1) (C2 (.map D) (.string key) (.held (.pointer pu)))/\w.grownBy w' (some m):=by
 have q5:=h.lt;have q0:∀o,(w.alloc o).cell? ⟨b,0,none⟩=some (.int .i64 6):=fun o=>(AI (w:=w) (AS w o b q5)).trans h.c0;have q6:∀o,(w.alloc o).cell? ⟨b,6,none⟩=some (.map (some m)):=fun o=>(AI (w:=w) (AS w o b q5)).trans h.c6;have HU:=Md (pu:=pu) hk hn ho;clear h ho;obtain⟨W,hW⟩:=A1 HU;have q7:=fun o=>(hW o).1;have q4:=Ab (fun o=>(hW o).2.1);have HG:=Ab (fun o=>(hW o).2.2);clear hW HU
 go_enter func249,ntmps249
 go_wp2_with (fail)
 go_region_law (fail)
 all_goals (
  go_wp2_with (fail);exact Bs (A3 rfl _ _ _) rfl ⟨rfl,Aa q4 _,Aa HG _⟩)
end
section
variable{w:CD}{b:Nat}{pth:A4}{key:By}{i:Nat}
theorem UO(hk:key.length<=1048576)(ho:w.ownsMap AT 9 RV m n (.map D))(x:Obj×TypeId):
  ∃w3,(CH #[109,9] x.2 #[.map (some m),.string ⟨key.toArray⟩]).run AT ((w.alloc x.1).drew)=.ok (.tuple #[]) w3/\w3.ownsMap AT 9 RV m n (D1 (.map D) (.string key))/\w.grownBy w3 (some m):=by
 have h0:((w.alloc x.1).drew).ownsMap AT 9 RV m n (.map D):=(ho.alloc x.1).drew;obtain⟨w3,q0,h1,h2⟩:=h0.drop Bw underlying109 (Ee key hk) x.2;have h3:=A2 w x.1 none;have h4:w.grownBy ((w.alloc x.1).drew) none:=⟨h3.os,h3.tape,h3.output,h3.size,h3.block⟩
 have h5:=h2.grown;refine⟨w3,q0,h1,?_⟩;exact⟨h5.os.trans h4.os,h5.tape.trans h4.tape,h5.output.trans h4.output,Dt h4.size h5.size,fun j hj q4=>(h5.block j (A6 hj h4.size) q4).trans (h4.block j hj (by simp))⟩
theorem PI(hk:key.length<=1048576)(h:VB w b 6 n0 [] (.slice none 0 0) (.map (some m)))(ho:w.ownsMap AT 9 RV m n (.map D)):
  CR AT 246 #[plV pth b key i] w fun e w'=>e=.returned (.tuple #[])/\w'.ownsMap AT 9 RV m n (D1 (.map D) (.string key))/\w.grownBy w' (some m):=by
 have q5:=h.lt;have q0:∀o,(w.alloc o).cell? ⟨b,0,none⟩=some (.int .i64 6):=fun o=>(AI (w:=w) (AS w o b q5)).trans h.c0;have q6:∀o,(w.alloc o).cell? ⟨b,6,none⟩=some (.map (some m)):=fun o=>(AI (w:=w) (AS w o b q5)).trans h.c6;have HU:=UO hk ho;clear h ho;obtain⟨W,hW⟩:=A1 HU;have q7:∀o ty,(CH #[109,9] ty #[.map (some m),.string ⟨key.toArray⟩]).run AT ((w.alloc o).drew)=.ok (.tuple #[]) (W (o,ty)):=by grind
 have q4:=Ab (fun x=>(hW x).2.1);have HG:=Ab (fun x=>(hW x).2.2);clear hW HU
 go_enter func246,ntmps246
 go_wp2_with (fail)
 go_region_law (fail)
 all_goals (
  go_wp2_with (fail);exact Bs (A3 rfl _ _ _) rfl ⟨rfl,Aa q4 _,Aa HG _⟩)
end
def U9(r:Except Nat Nat):A4:=match r with
 | .ok i=>.tuple #[.int .i64 i,.int .i64 0]
 | .error c=>.tuple #[.int .i64 0,.int .i64 c]
theorem Ms{t:By}(ht:t.length<=1048576)(hr:Rng w)(h:VB w b 5 n0 [] sl (.map none))(ho:w.ownsRow 0 80 1 sl ps.length ps):
  CR AT 244 #[.pointer (some ⟨b,0,none⟩),.string ⟨t.toArray⟩] w fun e w'=>e=.returned (U9 (ER ps.length t))/\Below w.heap.size w w':=by
 have c5:=h.c5;have hI:=Ab (FQ t w ht hr);have q0:=DI ho;obtain⟨N,hN⟩:∃N,N=ps.length:=⟨_,rfl⟩
 obtain⟨a,c,rfl⟩:=Cr ho;obtain⟨V,hV⟩:∃V,V=U9 (ER ps.length t):=⟨_,rfl⟩
 rw[<- hV];rw[<- hN] at c5 hV q0;have q5:(N:Int)<=9223372036854775807:=by unfold BY at q0;omega
 by_cases hd:t=[45]
 ·have HV:=Ab (show V=.tuple #[.int .i64 N,.int .i64 0] by rw[hV,ER,if_pos hd];rfl);have e1:(t==[45])=true:=by rw[hd];rfl
  have e2:(t != [45])=false:=by rw[hd];rfl
  clear h ho hN hV hd q0
  go_enter func244,ntmps244
  go_wp2_with (fail)
  go_ret2
  exact⟨by rw[Aa HV];rfl,CL _ _⟩
 ·have e1:(t==[45])=false:=by simpa using hd
  have e2:(t != [45])=true:=by simpa using hd
  cases hi:ZO t with
  | none=>
   have HV:=Ab (show V=.tuple #[.int .i64 0,.int .i64 12] by rw[hV,ER,if_neg hd,hi];rfl);rw[hi] at hI;clear h ho hN hV hd hi q0
   go_enter func244,ntmps244
   go_wp2_with (fail);refine (Aa hI).mono ?_
   rintro e w2 ⟨rfl,hb⟩;unfold ET
   go_wp2_with (fail)
   go_ret2
   exact⟨by rw[Aa HV];rfl,hb⟩
  | some i=>
   rw[hi] at hI;by_cases hlt:N<i
   ·have HV:=Ab (show V=.tuple #[.int .i64 0,.int .i64 11] by rw[hV,ER,if_neg hd,hi];simp only;rw[if_pos hlt];rfl);have q4:(N:Int)<(i:Int):=by omega
    clear h ho hN hV hd hi q0
    go_enter func244,ntmps244
    go_wp2_with (fail);refine (Aa hI).mono ?_
    rintro e w2 ⟨rfl,hb⟩;unfold ET
    go_wp2_with (fail)
    go_ret2
    exact⟨by rw[Aa HV];rfl,hb⟩
   ·have HV:=Ab (show V=.tuple #[.int .i64 i,.int .i64 0] by rw[hV,ER,if_neg hd,hi];simp only;rw[if_neg hlt];rfl);have q4:¬ (N:Int)<(i:Int):=by omega
    clear h ho hN hV hd hi q0
    go_enter func244,ntmps244
    go_wp2_with (fail);refine (Aa hI).mono ?_
    rintro e w2 ⟨rfl,hb⟩;unfold ET
    go_wp2_with (fail)
    go_ret2
    exact⟨by rw[Aa HV];rfl,hb⟩
section
attribute [local go_sem ↓] Go.wp_at_zero Go.wp_at_succ
theorem VB.set5{k:Int}{n:Nm}{s:By}{mp:A4}(h:VB w b k n s sl mp)(v:A4):VB (w.setCell ⟨b,5,none⟩ v) b k n s v mp:=by
 simp only[VB,World.setCell,Array.getElem?_modify];rw[if_pos trivial,show w.heap[b]? = _ from h];rfl
theorem VB.z{k:Int}{n:Nm}{s:By}{mp:A4}(h:VB w b k n s sl mp)(o:Nat):w.frozen? ⟨b,o,none⟩=false:=by simp[World.frozen?,show w.heap[b]? = _ from h]
def Ed(b:Nat)(sl:A4)(l':List (Option Addr))(w:CD)(e:Ending)(w':CD):Prop:=
 e=.returned (.tuple #[]) /\ ∃g cap,VB w' b 5 n0 [] (.slice (some ⟨g,0,none⟩) l'.length cap) (.map none)/\w'.ownsRow 0 80 1 (.slice (some ⟨g,0,none⟩) l'.length cap) l'.length (l'.map A5) /\
  (sl.ownBlock=some g\/w.heap.size<=g)/\Ao (fun k=>k=b\/sl.ownBlock=some k) w w'
theorem Ed.of{l':List (Option Addr)}{w1 w2:CD}{g cap:Nat}(hn:n=l'.length)(hg:b≠g)(h1:VB w1 b 5 n0 [] sl (.map none))(hB:Below w.heap.size w w1)(ho:w2.ownsRow 0 80 1 (.slice (some ⟨g,0,none⟩) n cap) n (l'.map A5))(hk:w1.grownBy w2 sl.ownBlock)(q4:sl.ownBlock≠some b)(q5:sl.ownBlock=some g\/w.heap.size<=g):
  Ed b sl l' w (.returned (.tuple #[])) (w2.setCell ⟨b,5,none⟩ (.slice (some ⟨g,0,none⟩) n cap)):=by
 subst hn;have h2:VB w2 b 5 n0 [] sl (.map none):=h1.kept (hk.block b h1.lt (fun e=>q4 e.symm));refine⟨rfl,g,cap,h2.set5 _,AX ho fun k hk2=>?_,q5,?_⟩
 ·simp[C1] at hk2;exact Below.heap_setCell _ _ _ _ (by grind)
 ·have h3:Ao (fun k=>k=b\/sl.ownBlock=some k) w w1:=Ao.of_below hB;have h4:Ao (fun k=>k=b\/sl.ownBlock=some k) w w2:=h3.trans (F':=fun k=>sl.ownBlock=some k) ⟨hk.os,hk.tape,hk.output,hk.size,fun k hk2 q0=>hk.block k hk2 (fun e=>q0 e.symm)⟩ fun k _ h=>Or.inr h;exact h4.setCell (p:=⟨b,5,none⟩) (Or.inl (Or.inl rfl)) _
section
variable{w:CD}{b:Nat}{pth:A4}{key:By}{i:Nat}
theorem PJ{l:List (Option Addr)}(h:VB w b 5 n0 [] sl (.map none))(ho:w.ownsRow 0 80 1 sl l.length (l.map A5))(hi:i<l.length)(qi:sl.ownBlock≠some b):
  CR AT 246 #[plV pth b key i] w (Ed b sl (ZN i l) w):=by
 have q8:=h.lt;have q0:∀o,(w.alloc o).cell? ⟨b,0,none⟩=some (.int .i64 5):=fun o=>(AI (w:=w) (AS w o b q8)).trans h.c0;have q5:∀o,(w.alloc o).cell? ⟨b,5,none⟩=some sl:=fun o=>(AI (w:=w) (AS w o b q8)).trans h.c5;have qm:=DI ho;have qp:IntKind.i64.wrap ((i:Int)+1)=((i+1:Nat):Int):=by grind [ZN,IntKind.wrap_i64,BY]
 have HO:=Ab ho;have HV:=Ab h;have HI:=Ab hi;have qb:=Ab qi;have q6:l.length-1=(ZN i l).length:=by have:=IZ hi;omega
 clear h ho hi qi qm
 go_enter func246,ntmps246
 go_wp2_with (fail);have qd:=heap_alloc_new w (.cells #[pth,.pointer (some ⟨b,0,none⟩),.string ⟨key.toArray⟩,.int .i64 i] 185)
 have q9:=(CL w.heap.size w).alloc (DD _) (.cells #[pth,.pointer (some ⟨b,0,none⟩),.string ⟨key.toArray⟩,.int .i64 i] 185);generalize w.alloc (.cells #[pth,.pointer (some ⟨b,0,none⟩),.string ⟨key.toArray⟩,.int .i64 i] 185)=wa at *;clear q0 q5;have hva:VB wa b 5 n0 [] sl (.map none):=(Aa HV).kept (q9.block b q8);have b1:wa.cell? ⟨w.heap.size,1,none⟩=some (.pointer (some ⟨b,0,none⟩)):=by simp[D0,qd]
 have b3:wa.cell? ⟨w.heap.size,3,none⟩=some (.int .i64 i):=by simp[D0,qd]
 have b5:=hva.c5;have qh:=AX (Aa HO) fun g hg=>q9.block g (Aw (Aa HO) g hg).1;obtain⟨g,cap,hsl,hc⟩:=Ym (i:=i) (show (wa.drew).ownsRow 0 80 1 sl l.length (l.map A5) from qh) (Aa HI);have hsl2:sl.ownBlock=some g:=by rw[hsl];rfl
 have qg:b≠g:=fun e=>Aa qb (by grind);have qj:g<w.heap.size:=(Aw (Aa HO) g hsl2).1;have q4:w.heap.size<wa.heap.size:=by grind
 have HC:=Ab (hc.mono (R':=fun e w2=>e=.returned (.slice (some ⟨g,0,none⟩) (l.length-1) cap)/\w2.cell? ⟨w.heap.size,1,none⟩=some (.pointer (some ⟨b,0,none⟩))/\w2.cell? ⟨w.heap.size,3,none⟩=some (.int .i64 i)/\w2.cell? ⟨b,5,none⟩=some sl/\w2.frozen? ⟨b,5,none⟩=false/\Ed b sl (ZN i l) w (.returned (.tuple #[])) (w2.setCell ⟨b,5,none⟩ (.slice (some ⟨g,0,none⟩) (l.length-1) cap))) (by
  rintro e w2 ⟨rfl,qk,hk2⟩;have qn:w2.heap[b]? = wa.heap[b]?:=hk2.block b hva.lt (by grind);have qf:w2.heap[w.heap.size]? = wa.heap[w.heap.size]?:=hk2.block _ q4 (by grind);have qe:VB w2 b 5 n0 [] sl (.map none):=hva.kept qn;refine⟨rfl,(AI (a:=⟨w.heap.size,1,none⟩) qf).trans b1,(AI (a:=⟨w.heap.size,3,none⟩) qf).trans b3,qe.c5,qe.z 5,?_⟩;exact Ed.of q6 qg hva q9 qk (by rw[hsl2];exact⟨hk2.os,hk2.tape,hk2.output,hk2.size,hk2.block⟩) (Aa qb) (Or.inl hsl2)))
 clear hc qh qd q9 hva HV HO HI qb q6 hsl2 qj q4 qg hsl;have qq:¬ w.heap.size=b:=by omega
 have qo:¬ b=w.heap.size:=by omega
 clear q8
 go_region_with (go_at_call 290;refine (Aa HC).mono ?_;rintro e w2 ⟨rfl,k1,k3,k5,kz,q7⟩;have KEND:=Ab q7;clear q7)
 all_goals exact bodyPost_end (A3 rfl _ _ _) rfl (Aa KEND)
end
end
end Go.Proofs.YtdpomdelmdofmaaGreatDoor
