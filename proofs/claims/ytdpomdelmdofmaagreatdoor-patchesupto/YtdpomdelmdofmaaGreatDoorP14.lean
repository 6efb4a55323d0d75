import Derived.Test.YtdpomdelmdofmaaGreatDoorP12
open Go.Value renaming pointer->AI
open Go renaming Value->AS,World->AT
set_option maxRecDepth 100000
set_option maxHeartbeats 4000000
namespace Go.Proofs.YtdpomdelmdofmaaGreatDoor
open Go.Proofs.Tryz Go.RowKit Go.Maps
variable{sl:AS}
section
attribute [local go_sem ↓] Go.wp_at_zero Go.wp_at_succ
theorem VB.set5{w:AT}{b:Nat}{k:Int}{n:Nm}{s:By}{mp:AS}(h:VB w b k n s sl mp)(v:AS):VB (w.setCell ⟨b,5,none⟩ v) b k n s v mp:=by
 simp only[VB,World.setCell,ğ];rw[if_pos trivial,show w.1[b]?=_ from h];rfl
theorem VB.z{w:AT}{b:Nat}{k:Int}{n:Nm}{s:By}{mp:AS}(h:VB w b k n s sl mp)(o:Nat):w.frozen? ⟨b,o,none⟩=false:=fk h
def Fb(b:Nat)(sl:AS)(l':List (Option Addr))(w:AT)(e:Ending)(w':AT):Prop:=
 e=.returned (.tuple #[])/\∃g cap,VB w' b 5 n0 [] (SlB g l'.length cap) (.map none)/\w'.ownsRow 0 80 1 (SlB g l'.length cap) l'.length (l'.map AI)/\
  (sl.ownBlock=some g\/w.1.size<=g)/\Aw (λk=>k=b\/sl.ownBlock=some k) w w'
theorem Fb.of{b:Nat}{l':List (Option Addr)}{w w1 w2:AT}{g cap n:Nat}(hn:n=l'.length)(hg:b≠g)(h1:VB w1 b 5 n0 [] sl (.map none))(hB:Bl w w1)(ho:w2.ownsRow 0 80 1 (SlB g n cap) n (l'.map AI))(hk:w1.grownBy w2 sl.ownBlock)(q0:sl.ownBlock≠some b)(q4:sl.ownBlock=some g\/w.1.size<=g):
  Fb b sl l' w (.returned (.tuple #[])) (w2.setCell ⟨b,5,none⟩ (SlB g n cap)):=by
 subst hn;have h2:VB w2 b 5 n0 [] sl (.map none):=h1.kept (hk.block b h1.lt (λe=>q0 e.symm));refine⟨rfl,g,cap,h2.set5 _,Am ho λk hk2=>?_,q4,?_⟩
 .simp[Value.ownBlock]at hk2;exact Æ _ _ _ _ ε
 .have h3:Aw (λk=>k=b\/sl.ownBlock=some k) w w1:=Aw.of_below hB;have h4:Aw (λk=>k=b\/sl.ownBlock=some k) w w2:=h3.trans (F':=λk=>sl.ownBlock=some k) ⟨hk.os,hk.tape,hk.output,hk.size,λk hk2 hne=>hk.block k hk2 (λe=>hne e.symm)⟩ λk _ h=>À h;exact h4.setCell (p:=⟨b,5,none⟩) (Å (Å rfl)) _
section
variable{w:AT}{b:Nat}{pth:AS}{key:By}{i:Nat}
theorem TU{l:List (Option Addr)}(h:VB w b 5 n0 [] sl (.map none))(ho:w.ownsRow 0 80 1 sl l.length (l.map AI))(hi:i<l.length)(qf:sl.ownBlock≠some b):
  Calls Tryz.prog 246 #[plV pth b key i] w (Fb b sl (rH i l) w):=by
 have q9:=h.lt;have q0:∀o,(w.alloc o).cell? ⟨b,0,none⟩=some (InB 5):=λo=>(Ç (w:=w) (Ä w o b q9)).trans h.c0;have q5:∀o,(w.alloc o).cell? ⟨b,5,none⟩=some sl:=λo=>(Ç (w:=w) (Ä w o b q9)).trans h.c5;have qm:=EI ho;have qq:IntKind.i64.wrap ((i:Int)+1)=((i+1:Nat):Int):=by grind [rH,IntKind.wrap_i64,maxLen]
 have HO:=Ab ho;have HV:=Ab h;have HI:=Ab hi;have qb:=Ab qf;have q6:l.length-1=(rH i l).length:=by have:=Lg hi;omega
 clear h ho hi qf qm;go_enter func246,ntmps246;go_wp2_with fail;have qd:=Ê w (.cells #[pth,PtB b,.string ⟨key.toArray⟩,InB i] 185);have q8:=(Â w.1.size w).alloc (Á _) (.cells #[pth,PtB b,.string ⟨key.toArray⟩,InB i] 185);generalize w.alloc (.cells #[pth,PtB b,.string ⟨key.toArray⟩,InB i] 185)=wa at*;clear q0 q5;have hva:VB wa b 5 n0 [] sl (.map none):=HV.u.kept (q8.block b q9);have b1:wa.cell? ⟨w.1.size,1,none⟩=some (PtB b):=ck qd;have b3:wa.cell? ⟨w.1.size,3,none⟩=some (InB i):=ck qd;have b5:=hva.c5;have qh:=Am HO.u λg hg=>q8.block g (Af HO.u g hg).1;obtain⟨g,cap,hsl,hc⟩:=nG (i:=i) (show(wa.drew).ownsRow 0 80 1 sl l.length (l.map AI)from qh) HI.u;have hsl2:sl.ownBlock=some g:=by rw[hsl];rfl
 have qe:b≠g:=λe=>qb.u ε;have qj:g<w.1.size:=(Af HO.u g hsl2).1;have q4:w.1.size<wa.1.size:=ε;have HC:=Ab (hc.mono (R':=λe w2=>e=.returned (SlB g (l.length-1) cap)/\w2.cell? ⟨w.1.size,1,none⟩=some (PtB b)/\w2.cell? ⟨w.1.size,3,none⟩=some (InB i)/\CeB w2 b 5=some sl/\w2.frozen? ⟨b,5,none⟩=false/\Fb b sl (rH i l) w (.returned (.tuple #[])) (w2.setCell ⟨b,5,none⟩ (SlB g (l.length-1) cap))) (by
  rintro e w2⟨rfl,ho2,hk2⟩;have qk:w2.1[b]?=wa.1[b]?:=hk2.block b hva.lt ε;have qg:w2.1[w.1.size]?=wa.1[w.1.size]?:=hk2.block _ q4 ε;have qi:VB w2 b 5 n0 [] sl (.map none):=hva.kept qk;refine⟨rfl,(Ç (a:=⟨w.1.size,1,none⟩) qg).trans b1,(Ç (a:=⟨w.1.size,3,none⟩) qg).trans b3,qi.c5,qi.z 5,?_⟩;exact Fb.of q6 qe hva q8 ho2 (by rw[hsl2];exact⟨hk2.os,hk2.tape,hk2.output,hk2.size,hk2.block⟩) qb.u (Å hsl2)))
 clear hc qh qd q8 hva HV HO HI qb q6 hsl2 qj q4 qe hsl;have qn:¬w.1.size=b:=ζ;have qo:¬b=w.1.size:=ζ;clear q9;go_region_with (go_at_call 290;refine HC.u.mono ?_;rintro e w2⟨rfl,k1,k3,k5,kz,q7⟩;have KEND:=Ab q7;clear q7);all_goals exact Ĝ (þ rfl _ _ _) rfl KEND.u
end
end
