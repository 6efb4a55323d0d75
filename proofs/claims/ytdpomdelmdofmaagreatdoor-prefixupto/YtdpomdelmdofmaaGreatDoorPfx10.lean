import Derived.Test.YtdpomdelmdofmaaGreatDoorPfx09
import Derived.Test.YtdpomdelmdofmaaGreatDoorPfx08
import Derived.Sort.KeysCollected
import Derived.Lib.ConvBytes
import Derived.Lib.AppendIntMem
open Go.Proofs.Tryz renaming prog->AI
open Go.World renaming setCell->AS
open List renaming take_succ_eq_append_getElem->AT
open Or renaming inl->A1,inr->A3
open Go.Lib renaming byteCells->A2,byteCells_length->A4
open Go renaming Calls->A5,World->Bs
open Nat renaming le_refl->A6
open UInt8 renaming ofNat->BY
open Go.RowKit.Below renaming refl->CD
set_option maxHeartbeats 4000000
namespace Go.Proofs.YtdpomdelmdofmaaGreatDoor
open Go.Proofs.Tryz Go.RowKit
variable{w:Bs}{R f B b:Nat}{t:ByteArray}{l:By}{tw:Bool}{dp fr lv d x:Int}
theorem JE(h:RD w R t l tw dp fr):
  A5 AI 184 #[.pointer (some ⟨R,0,none⟩)] w fun e w'=>Ae R w w'/\BU (Zw l) e w' R t tw dp fr:=by
 by_cases k1:Zn l 45=true
 ·cases hd:dg l.tail with
  | nil=>exact Xz h k1 hd
  | cons d ds=>
   by_cases hz:d=48
   ·by_cases hl:1<ds.length+1
    ·exact Xy h k1 d ds hd hz hl
    ·have q0:ds=[]:=by grind
     cases hf:BP (ZH l.tail) with
     | none=>exact Wh h k1 d ds hd hz q0 hf
     | some y=>
      obtain⟨f,l2⟩:=y;cases he:BJ l2 with
      | none=>exact Wf h k1 d ds hd hz q0 f l2 hf he
      | some y=>
       obtain⟨x,l3⟩:=y;exact Wc h k1 d ds hd hz q0 f l2 hf x l3 he
   ·cases hf:BP (ZH l.tail) with
    | none=>exact Wi h k1 d ds hd hz hf
    | some y=>
     obtain⟨f,l2⟩:=y;cases he:BJ l2 with
     | none=>exact Wg h k1 d ds hd hz f l2 hf he
     | some y=>
      obtain⟨x,l3⟩:=y;exact We h k1 d ds hd hz f l2 hf x l3 he
 ·cases hd:dg l with
  | nil=>exact Xx h (AA k1) hd
  | cons d ds=>
   by_cases hz:d=48
   ·by_cases hl:1<ds.length+1
    ·exact Xw h (AA k1) d ds hd hz hl
    ·have q0:ds=[]:=by grind
     cases hf:BP (ZH l) with
     | none=>exact V9 h (AA k1) d ds hd hz q0 hf
     | some y=>
      obtain⟨f,l2⟩:=y;cases he:BJ l2 with
      | none=>exact V7 h (AA k1) d ds hd hz q0 f l2 hf he
      | some y=>
       obtain⟨x,l3⟩:=y;exact V5 h (AA k1) d ds hd hz q0 f l2 hf x l3 he
   ·cases hf:BP (ZH l) with
    | none=>exact Wb h (AA k1) d ds hd hz hf
    | some y=>
     obtain⟨f,l2⟩:=y;cases he:BJ l2 with
     | none=>exact V8 h (AA k1) d ds hd hz f l2 hf he
     | some y=>
      obtain⟨x,l3⟩:=y;exact V6 h (AA k1) d ds hd hz f l2 hf x l3 he
theorem Ho{n:Nm}{r:By}(h:Zw l=some (n,r))(hl:l.length<=2000):-10000000<=n.2.2/\n.2.2<=10000000:=by
 have hb:∀ (b:Bool) (l:By),l.length<=2000->BN b l=some (n,r) -> -10000000<=n.2.2/\n.2.2<=10000000:=by
  intro b l hl h;unfold BN at h;have a:=B9 l;split at h
  ·cases h
  ·split at h
   ·cases h
   ·rename_i f r1 h1;have a2:=DO h1;split at h
    ·cases h
    ·rename_i e r2 h2;have a3:=Gl h2;have a4:=Gc b (dg l++f) (e-f.length);simp only[List.length_append] at a4;injection h with h;injection h with h3 h4;subst h3;omega
 unfold Zw at h;split at h
 ·exact hb _ _ (by have:=List.length_tail (l:=l);omega) h
 ·exact hb _ _ hl h
theorem Vu(hV:Ez f)(h:RD w R t l tw dp fr)(hT:Af w)(hR:NG<=R)(hl:l.length<=f)(hlv:0<=lv)(hb:lv+f<=4999)(hp:Zt l=123):
  A5 AI 137 #[.pointer (some ⟨R,0,none⟩),.int .i64 lv] w fun e w'=>Ae R w w'/\Fe (f+1) lv l (tw,dp,fr) e w w' R t:=by
 obtain⟨q,ha,hq⟩:=h;have q6:l.length<=2000:=by have:=ha.len;have:=ha.small;omega
 have c3:=hq.c3;have z3:=hq.fz 3;have qe:RD (w.setCell ⟨R,3,none⟩ (.int .i64 (max dp lv))) R t l tw (max dp lv) fr:=⟨q,ha,hq.set3 (max dp lv)⟩
 have q8:Ae R w (w.setCell ⟨R,3,none⟩ (.int .i64 (max dp lv))):=(Ae.refl R w).setCell rfl _;have qb:=hT.kept q8 hR;have qh:(w.setCell ⟨R,3,none⟩ (.int .i64 (max dp lv))).heap.size=w.heap.size:=by simp[AS]
 have q9:((Zt l:Int)==123)=true:=by simp;omega
 have HV:Hid (ZD (f+1) lv l (tw,dp,fr)=(match Bq 123 125 (CM (ZD f (lv+1))) l (Ay [],(tw,(max dp lv,fr))) with
   | none=>none
   | some (r,(v,fl'))=>some (v,r,fl'))):=by
  unfold Hid;rw[ZD,if_pos hp];rfl
 clear hq ha hT
 go_enter func137,ntmps137
 go_wp2_with (fail);refine (Ev qe).mono ?_
 rintro e w1 ⟨rfl,qf,q7⟩;have q0:=q8.trans q7;have qd:=qb.kept q7 hR;have qg:=q0.size
 go_wp2_with (fail);refine (PP hV qf qd hR hl hlv hb).mono ?_
 rintro e w2 ⟨hk2,hc⟩;rcases hc with⟨v,r,fl',p,hs,rfl,q4,q5⟩|⟨hs,p,rfl,q4⟩
 ·have HS:=Ab hs;clear hs
  go_wp2_with (fail)
  go_ret2
  refine⟨q0.trans hk2,A1 ⟨v,r,fl',p,?_,rfl,q4,q5.move (by omega) fun k h1 _=>rfl⟩⟩;rw[Aa HV,Aa HS]
 ·have HS:=Ab hs;clear hs
  go_wp2_with (fail)
  go_ret2
  refine⟨q0.trans hk2,A3 ⟨?_,p,rfl,q4⟩⟩;rw[Aa HV,Aa HS]
theorem Vx(hV:Ez f)(h:RD w R t l tw dp fr)(hT:Af w)(hR:NG<=R)(hl:l.length<=f)(hlv:0<=lv)(hb:lv+f<=4999)(hp:Zt l=91):
  A5 AI 137 #[.pointer (some ⟨R,0,none⟩),.int .i64 lv] w fun e w'=>Ae R w w'/\Fe (f+1) lv l (tw,dp,fr) e w w' R t:=by
 obtain⟨q,ha,hq⟩:=h;have q6:l.length<=2000:=by have:=ha.len;have:=ha.small;omega
 have c3:=hq.c3;have z3:=hq.fz 3;have qe:RD (w.setCell ⟨R,3,none⟩ (.int .i64 (max dp lv))) R t l tw (max dp lv) fr:=⟨q,ha,hq.set3 (max dp lv)⟩
 have q8:Ae R w (w.setCell ⟨R,3,none⟩ (.int .i64 (max dp lv))):=(Ae.refl R w).setCell rfl _;have qb:=hT.kept q8 hR;have qi:(w.setCell ⟨R,3,none⟩ (.int .i64 (max dp lv))).heap.size=w.heap.size:=by simp[AS]
 have q9:((Zt l:Int)==123)=false:=by simp;omega
 have qg:((Zt l:Int)==91)=true:=by simp;omega
 have HV:Hid (ZD (f+1) lv l (tw,dp,fr)=(match Bq 91 93 (Dr (ZD f (lv+1))) l ([],(tw,(max dp lv,fr))) with
   | none=>none
   | some (r,(es,fl'))=>some (Ap es,r,fl'))):=by
  unfold Hid;rw[ZD,if_neg (by omega),if_pos hp];rfl
 clear hq ha hT
 go_enter func137,ntmps137
 go_wp2_with (fail);refine (Ev qe).mono ?_
 rintro e w1 ⟨rfl,qf,q7⟩;have q0:=q8.trans q7;have qd:=qb.kept q7 hR;have qh:=q0.size
 go_wp2_with (fail);refine (S7 hV qf qd hR hl hlv hb).mono ?_
 rintro e w2 ⟨hk2,hc⟩;rcases hc with⟨es,r,fl',p,hs,rfl,q4,q5⟩|⟨hs,p,rfl,q4⟩
 ·have HS:=Ab hs;clear hs
  go_wp2_with (fail)
  go_ret2
  refine⟨q0.trans hk2,A1 ⟨Ap es,r,fl',p,?_,rfl,q4,q5.move (by omega) fun k h1 _=>rfl⟩⟩;rw[Aa HV,Aa HS]
 ·have HS:=Ab hs;clear hs
  go_wp2_with (fail)
  go_ret2
  refine⟨q0.trans hk2,A3 ⟨?_,p,rfl,q4⟩⟩;rw[Aa HV,Aa HS]
theorem Vt(h:RD w R t l tw dp fr)(hT:Af w)(hR:NG<=R)(hp:Zt l=34):
  A5 AI 137 #[.pointer (some ⟨R,0,none⟩),.int .i64 lv] w fun e w'=>Ae R w w'/\Fe (f+1) lv l (tw,dp,fr) e w w' R t:=by
 obtain⟨q,ha,hq⟩:=h;have q6:l.length<=2000:=by have:=ha.len;have:=ha.small;omega
 have c3:=hq.c3;have z3:=hq.fz 3;have qe:RD (w.setCell ⟨R,3,none⟩ (.int .i64 (max dp lv))) R t l tw (max dp lv) fr:=⟨q,ha,hq.set3 (max dp lv)⟩
 have q8:Ae R w (w.setCell ⟨R,3,none⟩ (.int .i64 (max dp lv))):=(Ae.refl R w).setCell rfl _;have qb:=hT.kept q8 hR;have qj:(w.setCell ⟨R,3,none⟩ (.int .i64 (max dp lv))).heap.size=w.heap.size:=by simp[AS]
 have q9:((Zt l:Int)==123)=false:=by simp;omega
 have qg:((Zt l:Int)==91)=false:=by simp;omega
 have qh:((Zt l:Int)==34)=true:=by simp;omega
 have HV:Hid (ZD (f+1) lv l (tw,dp,fr)=(match aE l with
   | none=>none
   | some (s,r)=>some (Aq s,r,(tw,(max dp lv,fr))))):=by
  unfold Hid;rw[ZD,if_neg (by omega),if_neg (by omega),if_pos hp];rfl
 clear hq ha hT
 go_enter func137,ntmps137
 go_wp2_with (fail);refine (Ev qe).mono ?_
 rintro e w1 ⟨rfl,qf,q7⟩;have q4:=q8.trans q7;have qd:=qb.kept q7 hR;have qi:=q4.size
 go_wp2_with (fail);refine (Ju qf qd hR).mono ?_
 rintro e w2 ⟨hk2,hc⟩;have q0:=q4.trans hk2;have hs2:=hk2.size;rcases hc with⟨s,r,hs,rfl,q5⟩|⟨hs,s,r,rfl,q5⟩
 ·have HS:=Ab hs;clear hs
  go_wp2_with (fail)
  go_ret2
  refine⟨q0.alloc _,A1 ⟨Aq s,r,(tw,(max dp lv,fr)),some ⟨w2.heap.size,0,none⟩,?_,rfl,q5.alloc _,Tr.leafS (by omega) (C6 _ _ _ rfl)⟩⟩;rw[Aa HV,Aa HS]
 ·have HS:=Ab hs;clear hs
  go_wp2_with (fail)
  go_ret2
  refine⟨q0.alloc _,A3 ⟨?_,_,rfl,_,_,_,_,q5.alloc _⟩⟩;rw[Aa HV,Aa HS]
theorem Vw(h:RD w R t l tw dp fr)(hT:Af w)(hR:NG<=R)(hp:Zt l=45):
  A5 AI 137 #[.pointer (some ⟨R,0,none⟩),.int .i64 lv] w fun e w'=>Ae R w w'/\Fe (f+1) lv l (tw,dp,fr) e w w' R t:=by
 obtain⟨q,ha,hq⟩:=h;have q0:l.length<=2000:=by have:=ha.len;have:=ha.small;omega
 have c3:=hq.c3;have z3:=hq.fz 3;have qd:RD (w.setCell ⟨R,3,none⟩ (.int .i64 (max dp lv))) R t l tw (max dp lv) fr:=⟨q,ha,hq.set3 (max dp lv)⟩
 have q8:Ae R w (w.setCell ⟨R,3,none⟩ (.int .i64 (max dp lv))):=(Ae.refl R w).setCell rfl _;have qb:=hT.kept q8 hR;have qk:(w.setCell ⟨R,3,none⟩ (.int .i64 (max dp lv))).heap.size=w.heap.size:=by simp[AS]
 have q9:((Zt l:Int)==123)=false:=by simp;omega
 have qf:((Zt l:Int)==91)=false:=by simp;omega
 have qg:((Zt l:Int)==34)=false:=by simp;omega
 have qj:((Zt l:Int)==45)=true:=by simp;omega
 have HV:Hid (ZD (f+1) lv l (tw,dp,fr)=(match Zw l with
   | none=>none
   | some (n,r)=>some (Bv n,r,(tw,(max dp lv,max (max fr n.2.2) (-n.2.2)))))):=by
  unfold Hid;rw[ZD,if_neg (by omega),if_neg (by omega),if_neg (by omega),if_pos (by omega)];rfl
 clear hq ha hT
 go_enter func137,ntmps137
 go_wp2_with (fail);refine (Ev qd).mono ?_
 rintro e w1 ⟨rfl,qe,q7⟩;have q5:=q8.trans q7;have qi:=qb.kept q7 hR;have qh:=q5.size
 go_wp2_with (fail);refine (JE qe).mono ?_
 rintro e w2 ⟨hk2,hc⟩;have q4:=q5.trans hk2;have hs2:=hk2.size;rcases hc with⟨n,r,hs,rfl,q6⟩|⟨hs,rfl,r,q6⟩
 ·have HS:=Ab hs;obtain⟨nb,nd,ne⟩:=n;clear hs;unfold Az
  go_wp2_with (fail)
  go_ret2
  refine⟨(q4.alloc _).alloc _,A1 ⟨Bv (nb,nd,ne),r,(tw,(max dp lv,max (max fr ne) (-ne))),some ⟨w2.heap.size+1,0,none⟩,?_,rfl,(q6.alloc _).alloc _,Tr.leafN (by omega) (C6 _ _ _ (by simp)) ⟨by have:=Ho (Aa HS) q0;simp only at this |-; omega,by have:=Ho (Aa HS) q0;simp only at this |-; omega⟩⟩⟩;rw[Aa HV,Aa HS]
 ·have HS:=Ab hs;clear hs;unfold Az
  go_wp2_with (fail)
  go_ret2
  refine⟨(q4.alloc _).alloc _,A3 ⟨?_,_,rfl,_,_,_,_,(q6.alloc _).alloc _⟩⟩;rw[Aa HV,Aa HS]
theorem Vv(h:RD w R t l tw dp fr)(hT:Af w)(hR:NG<=R)(hp:48<=Zt l/\Zt l<=57):
  A5 AI 137 #[.pointer (some ⟨R,0,none⟩),.int .i64 lv] w fun e w'=>Ae R w w'/\Fe (f+1) lv l (tw,dp,fr) e w w' R t:=by
 obtain⟨q,ha,hq⟩:=h;have q0:l.length<=2000:=by have:=ha.len;have:=ha.small;omega
 have c3:=hq.c3;have z3:=hq.fz 3;have qd:RD (w.setCell ⟨R,3,none⟩ (.int .i64 (max dp lv))) R t l tw (max dp lv) fr:=⟨q,ha,hq.set3 (max dp lv)⟩
 have q8:Ae R w (w.setCell ⟨R,3,none⟩ (.int .i64 (max dp lv))):=(Ae.refl R w).setCell rfl _;have qb:=hT.kept q8 hR;have qk:(w.setCell ⟨R,3,none⟩ (.int .i64 (max dp lv))).heap.size=w.heap.size:=by simp[AS]
 have q9:((Zt l:Int)==123)=false:=by simp;omega
 have qf:((Zt l:Int)==91)=false:=by simp;omega
 have qg:((Zt l:Int)==34)=false:=by simp;omega
 have qj:((Zt l:Int)==45)=false:=by simp;omega
 have HV:Hid (ZD (f+1) lv l (tw,dp,fr)=(match Zw l with
   | none=>none
   | some (n,r)=>some (Bv n,r,(tw,(max dp lv,max (max fr n.2.2) (-n.2.2)))))):=by
  unfold Hid;rw[ZD,if_neg (by omega),if_neg (by omega),if_neg (by omega),if_pos (by omega)];rfl
 clear hq ha hT
 go_enter func137,ntmps137
 go_wp2_with (fail);refine (Ev qd).mono ?_
 rintro e w1 ⟨rfl,qe,q7⟩;have q5:=q8.trans q7;have qi:=qb.kept q7 hR;have qh:=q5.size;have HD:=Ab (show Cw (Zt l)=true by unfold Cw;simp;omega)
 go_wp2_with (fail);refine (BD _ _ (Jv l)).mono ?_
 rintro e w9 ⟨rfl,rfl⟩;rw[Aa HD]
 go_wp2_with (fail);refine (JE qe).mono ?_
 rintro e w2 ⟨hk2,hc⟩;have q4:=q5.trans hk2;have hs2:=hk2.size;rcases hc with⟨n,r,hs,rfl,q6⟩|⟨hs,rfl,r,q6⟩
 ·have HS:=Ab hs;obtain⟨nb,nd,ne⟩:=n;clear hs;unfold Az
  go_wp2_with (fail)
  go_ret2
  refine⟨(q4.alloc _).alloc _,A1 ⟨Bv (nb,nd,ne),r,(tw,(max dp lv,max (max fr ne) (-ne))),some ⟨w2.heap.size+1,0,none⟩,?_,rfl,(q6.alloc _).alloc _,Tr.leafN (by omega) (C6 _ _ _ (by simp)) ⟨by have:=Ho (Aa HS) q0;simp only at this |-; omega,by have:=Ho (Aa HS) q0;simp only at this |-; omega⟩⟩⟩;rw[Aa HV,Aa HS]
 ·have HS:=Ab hs;clear hs;unfold Az
  go_wp2_with (fail)
  go_ret2
  refine⟨(q4.alloc _).alloc _,A3 ⟨?_,_,rfl,_,_,_,_,(q6.alloc _).alloc _⟩⟩;rw[Aa HV,Aa HS]
theorem Vs(h:RD w R t l tw dp fr)(hT:Af w)(hR:NG<=R)(h1:¬ Zt l=123)(h2:¬ Zt l=91)(h3:¬ Zt l=34)(h4:¬ Zt l=45)(h5:¬ (48<=Zt l/\Zt l<=57)):
  A5 AI 137 #[.pointer (some ⟨R,0,none⟩),.int .i64 lv] w fun e w'=>Ae R w w'/\Fe (f+1) lv l (tw,dp,fr) e w w' R t:=by
 obtain⟨q,ha,hq⟩:=h;have q6:l.length<=2000:=by have:=ha.len;have:=ha.small;omega
 have c3:=hq.c3;have z3:=hq.fz 3;have qf:RD (w.setCell ⟨R,3,none⟩ (.int .i64 (max dp lv))) R t l tw (max dp lv) fr:=⟨q,ha,hq.set3 (max dp lv)⟩
 have q8:Ae R w (w.setCell ⟨R,3,none⟩ (.int .i64 (max dp lv))):=(Ae.refl R w).setCell rfl _;have qd:=hT.kept q8 hR;have qm:(w.setCell ⟨R,3,none⟩ (.int .i64 (max dp lv))).heap.size=w.heap.size:=by simp[AS]
 have qb:((Zt l:Int)==123)=false:=by simp;omega
 have qh:((Zt l:Int)==91)=false:=by simp;omega
 have qi:((Zt l:Int)==34)=false:=by simp;omega
 have qk:((Zt l:Int)==45)=false:=by simp;omega
 have HV:Hid (ZD (f+1) lv l (tw,dp,fr)=(match CS l 0 aK with
   | none=>none
   | some (k,r)=>some (AO k,r,(tw,(max dp lv,fr))))):=by
  unfold Hid;rw[ZD,if_neg (by omega),if_neg (by omega),if_neg (by omega),if_neg (by omega)];rfl
 clear hq ha hT
 go_enter func137,ntmps137
 go_wp2_with (fail);refine (Ev qf).mono ?_
 rintro e w1 ⟨rfl,qg,q7⟩;have q4:=q8.trans q7;have qe:=qd.kept q7 hR;have qj:=q4.size;have HD:=Ab (show Cw (Zt l)=false by unfold Cw;simp;omega)
 go_wp2_with (fail);refine (BD _ _ (Jv l)).mono ?_
 rintro e w9 ⟨rfl,rfl⟩;rw[Aa HD]
 go_wp2_with (fail);refine (Ti qg qe).mono ?_
 rintro e w2 ⟨hk2,hc⟩;have q0:=q4.trans hk2;rcases hc with⟨k,r,b,hs,rfl,q9,hvb,hb2,q5⟩|⟨hs,rfl,q5⟩
 ·have HS:=Ab hs;clear hs
  go_wp2_with (fail)
  go_ret2
  refine⟨q0,A1 ⟨AO k,r,(tw,(max dp lv,fr)),some ⟨b,0,none⟩,?_,rfl,q5,Tr.leafW (by omega) q9 hvb⟩⟩;rw[Aa HV,Aa HS]
 ·have HS:=Ab hs;clear hs
  go_wp2_with (fail)
  go_ret2
  refine⟨q0,A3 ⟨?_,none,rfl,_,_,_,_,q5⟩⟩;rw[Aa HV,Aa HS]
theorem W8(f:Nat):Ez f:=by
 induction f with
 | zero=>intro R t lv l tw dp fr w _ _ _ hl;omega
 | succ f ih=>
  intro R t lv l tw dp fr w h hT hR hl hlv hb;have q0:l.length<=f:=by omega
  have q4:lv+f<=4999:=by omega
  by_cases h1:Zt l=123
  ·exact Vu ih h hT hR q0 hlv q4 h1
  ·by_cases h2:Zt l=91
   ·exact Vx ih h hT hR q0 hlv q4 h2
   ·by_cases h3:Zt l=34
    ·exact Vt h hT hR h3
    ·by_cases h4:Zt l=45
     ·exact Vw h hT hR h4
     ·by_cases h5:48<=Zt l/\Zt l<=57
      ·exact Vv h hT hR h5
      ·exact Vs h hT hR h1 h2 h3 h4 h5
def top:Nat:=2001
theorem EA:top=2001:=rfl
def Zy(t:By)(q0 ex:Int):Nat×Option To:=
 if 2000<t.length then (4,none) else
 match ZD top 1 (Zu t) (false,(0,0)) with
 | none=>(5,none)
 | some (v,r,fl)=>if (Zu r).isEmpty then (if fl.1 then (6,none) else if q0<fl.2.1 then (7,none) else if ex<fl.2.2 then (8,none) else (0,some v)) else (5,none)
theorem Tr.drewN{lo:Nat}{v:Value}{d:To}(h:Tr f lo w v d)(n:Nat):Tr f lo (w.drewN n) v d:=h.move (A6 _) fun _ _ _=>rfl
def Tj(l:By)(fl:Fl)(e:Ending)(w w':Bs)(R:Nat)(t:ByteArray):Prop:=
 (∃v r fl' p,ZD top 1 (Zu l) fl=some (v,r,fl')/\e=.returned (.tuple #[.pointer p,.bool (Zu r).isEmpty])/\RD w' R t (Zu r) fl'.1 fl'.2.1 fl'.2.2/\Tr top w.heap.size w' (.pointer p) v) \/
  (ZD top 1 (Zu l) fl=none /\ ∃p,e=.returned (.tuple #[.pointer p,.bool false]) /\ ∃r tw dp fr,RD w' R t r tw dp fr)
theorem QN(h:RD w R t l tw dp fr)(hT:Af w)(hR:NG<=R):
  A5 AI 102 #[.pointer (some ⟨R,0,none⟩)] w fun e w'=>Ae R w w'/\Tj l (tw,(dp,fr)) e w w' R t:=by
 have qg:=h.lt;have q8:l.length<=2000:=by obtain⟨p,ha,_⟩:=h;have:=ha.len;have:=ha.small;omega
 have qh:=Bb l;have qd:=EA
 go_enter func102,ntmps102
 go_wp2_with (fail);refine (BT h).mono ?_
 rintro e w1 ⟨rfl,qe,q6⟩
 go_wp2_with (fail);refine (W8 top R t 1 _ _ _ _ w1 qe (hT.kept q6 hR) hR (by omega) (by omega) (by omega)).mono ?_
 rintro e w2 ⟨hk2,hc⟩;have q0:=q6.trans hk2;have qf:=q6.size;rcases hc with⟨v,r,fl',p,hs,rfl,q5,q7⟩|⟨hs,p,rfl,q5⟩
 ·have HS:=Ab hs;clear hs hT
  go_wp2_with (fail);refine (BT q5).mono ?_
  rintro e w3 ⟨rfl,qb,q9⟩;have q4:Tr top w.heap.size w3 (.pointer p) v:=q7.move (by omega) fun k h1 h2=>q9.block k h2 (by omega);obtain⟨q,ha,hq⟩:=qb;have c0:=hq.c0;have c1:=hq.c1;have hem:((q:Int)==(t.size:Int))=(Zu r).isEmpty:=by
   have e1:=ha.len;have e2:=ha.le;cases hx:Zu r with
   | nil=>rw[hx] at e1;simp at e1 |-; omega
   | cons a b=>rw[hx] at e1;simp at e1 |-; omega
  have HE:=Ab hem;have HA:=Ab ha;have HQ:=Ab hq;clear ha hq hem
  go_wp2_with (fail)
  go_quiet (fail)
  go_wp2_with (fail);rw[Aa HE]
  go_ret2
  exact⟨(q0.trans q9).drewN _,A1 ⟨v,r,fl',p,Aa HS,rfl,⟨q,Aa HA,(Aa HQ).drewN _⟩,q4.drewN _⟩⟩
 ·have HS:=Ab hs;clear hs hT
  go_wp2_with (fail)
  go_ret2
  exact⟨q0,A3 ⟨Aa HS,none,rfl,q5⟩⟩
def VS(t:By)(q0 ex:Int)(e:Ending)(w w':Bs):Prop:=
 (∃c,Zy t q0 ex=(c,none)/\0<c/\e=.returned (.tuple #[.pointer none,.int .i64 (c:Nat)])) \/
  (∃v p,Zy t q0 ex=(0,some v)/\e=.returned (.tuple #[.pointer (some p),.int .i64 0])/\Tr top w.heap.size w' (.pointer (some p)) v)
theorem N6{t:By}(h:2000<t.length):Zy t d x=(4,none):=by unfold Zy;rw[if_pos h]
theorem N5{t:By}(h:¬ 2000<t.length)(hv:ZD top 1 (Zu t) (false,(0,0))=none):Zy t d x=(5,none):=by unfold Zy;rw[if_neg h,hv]
theorem N4{t:By}(h:¬ 2000<t.length){v:To}{r:By}{fl:Fl}(hv:ZD top 1 (Zu t) (false,(0,0))=some (v,r,fl)):
  Zy t d x=if (Zu r).isEmpty then (if fl.1 then (6,none) else if d<fl.2.1 then (7,none) else if x<fl.2.2 then (8,none) else (0,some v)) else (5,none):=by unfold Zy;rw[if_neg h,hv]
theorem U5(s:ByteArray)(q0 ex:Int)(w:Bs)(hT:Af w):
  A5 AI 77 #[.string s,.int .i64 q0,.int .i64 ex] w fun e w'=>Below w.heap.size w w'/\VS s.data.toList q0 ex e w w':=by
 have q7:s.data.toList.length=s.size:=(Lib.size_eq s).symm;by_cases hl:2000<s.size
 ·have h0:=Ab (N6 (d:=q0) (x:=ex) (show 2000<s.data.toList.length by omega));have e0:decide ((2000:Int)<(s.size:Int))=true:=by simp;omega
  clear hT q7
  go_enter func77,ntmps77
  go_wp2_with (fail)
  go_ret2
  exact⟨CD _ _,A1 ⟨4,Aa h0,by omega,rfl⟩⟩
 ·have e0:decide ((2000:Int)<(s.size:Int))=false:=by simp;omega
  have hn:¬ 2000<s.data.toList.length:=by omega
  have hR:=hT.ng;have qb:Ae w.heap.size w (w.alloc (.cells #[.string s,.int .i64 0,.bool false,.int .i64 0,.int .i64 0] 155)):=(Ae.refl _ w).alloc _;have q8:RD (w.alloc (.cells #[.string s,.int .i64 0,.bool false,.int .i64 0,.int .i64 0] 155)) w.heap.size s s.data.toList false 0 0:=by
   refine⟨0,⟨by omega,by omega,rfl⟩,?_⟩;show (w.heap.push _)[w.heap.size]? = _;simp
  have qd:=hT.kept (X:=w.heap.size) qb hR;clear hT
  go_enter func77,ntmps77
  go_wp2_with (fail);refine (QN q8 qd hR).mono ?_
  rintro e w2 ⟨hk2,hc⟩;have q6:=qb.trans hk2;have hb2:Below w.heap.size w w2:=q6.below (A6 _) (A6 _);rcases hc with⟨v,r,fl',p,hs,rfl,q9,q4⟩|⟨hs,p,rfl,q9⟩
  ·have h0:=Ab (N4 (d:=q0) (x:=ex) hn hs);obtain⟨tw,dp,fr⟩:=fl';obtain⟨bb,rfl⟩:∃bb,p=some bb:=by
    obtain⟨b,hb,_⟩:=q4.ptr;injection hb with hb;exact⟨_,hb⟩
   have q5:Tr top w.heap.size w2 (.pointer (some bb)) v:=q4.move (by simp) fun k h1 _=>rfl;obtain⟨q,ha,hq⟩:=q9;simp only at hq;have c2:=hq.c2;have c3:=hq.c3;have c4:=hq.c4;clear hs q8 ha hq q4;cases hem:(Zu r).isEmpty with
   | false=>
    have h1:=Ab (show Zy s.data.toList q0 ex=(5,none) from by rw[Aa h0,hem];rfl);clear hem h0
    go_wp2_with (fail)
    go_ret2
    exact⟨hb2,A1 ⟨5,Aa h1,by omega,rfl⟩⟩
   | true=>
    cases htw:tw with
    | true=>
     have h1:=Ab (show Zy s.data.toList q0 ex=(6,none) from by rw[Aa h0,hem];simp[htw]);subst htw;clear hem h0
     go_wp2_with (fail)
     go_ret2
     exact⟨hb2,A1 ⟨6,Aa h1,by omega,rfl⟩⟩
    | false=>
     subst htw;by_cases h7:q0<dp
     ·have h1:=Ab (show Zy s.data.toList q0 ex=(7,none) from by rw[Aa h0,hem];simp[h7]);have e7:decide (q0<dp)=true:=by simpa using h7
      clear hem h0
      go_wp2_with (fail)
      go_ret2
      exact⟨hb2,A1 ⟨7,Aa h1,by omega,rfl⟩⟩
     ·have e7:decide (q0<dp)=false:=by simpa using h7
      by_cases h8:ex<fr
      ·have h1:=Ab (show Zy s.data.toList q0 ex=(8,none) from by rw[Aa h0,hem];simp[h7,h8]);have e8:decide (ex<fr)=true:=by simpa using h8
       clear hem h0
       go_wp2_with (fail)
       go_ret2
       exact⟨hb2,A1 ⟨8,Aa h1,by omega,rfl⟩⟩
      ·have h1:=Ab (show Zy s.data.toList q0 ex=(0,some v) from by rw[Aa h0,hem];simp[h7,h8]);have e8:decide (ex<fr)=false:=by simpa using h8
       clear hem h0
       go_wp2_with (fail)
       go_ret2
       exact⟨hb2,A3 ⟨v,_,Aa h1,rfl,q5⟩⟩
  ·have h1:=Ab (N5 (d:=q0) (x:=ex) hn hs);clear hs q8
   go_wp2_with (fail)
   go_ret2
   exact⟨hb2,A1 ⟨5,Aa h1,by omega,rfl⟩⟩
def Hy(n:Nat):UInt8:=if n<10 then BY (48+n) else BY (87+n)
def DP(c:UInt8):By:=if c.toNat=34\/c.toNat=92 then [92,c] else if c.toNat<32 then [92,117,48,48,Hy (c.toNat / 16),Hy (c.toNat % 16)] else [c]
def CO:By->By
 | []=>[]
 | c::r=>DP c++CO r
def Ag(s:By):By:=34::(CO s++[34])
def BB(n:Nm):By:=if n.2.1=[] then [48] else (if n.1 then [45] else [])++(n.2.1++(if n.2.2=0 then [] else 101::Lib.itoa n.2.2))
def BL:List By->By
 | []=>[]
 | x::r=>44::(x++BL r)
def Ax:List By->By
 | []=>[]
 | x::r=>x++BL r
def ZJ(es:List (Lit×To)):List By:=es.map fun p=>match p.1 with | .string b=>b|_=>[]
def ZV(es:List (Lit×To))(k:By):To:=DataW.atKey (.map es) (.string k) .nil
def Zm:Nat->To->By
 | 0,_=>[]
 | f+1,d=>match d with
  | .lit (.int _ k)=>aK.getD k.toNat []
  | .lit (.string s)=>Ag s
  | .agg [.lit (.bool ng),.lit (.string ds),.lit (.int _ ex)]=>BB (ng,ds,ex)
  | .slice es _=>91::(Ax (es.map (Zm f))++[93])
  | .map es=>123::(Ax (((ZJ es).mergeSort fun x y=>decide (x<=y)).map fun k=>Ag k++58::Zm f (ZV es k))++[125])
  | _=>[]
theorem NH(f k:Nat):Zm (f+1) (AO k)=aK.getD k []:=rfl
theorem Po(f:Nat)(n:Nm):Zm (f+1) (Bv n)=BB n:=rfl
theorem KC(f:Nat)(s:By):Zm (f+1) (Aq s)=Ag s:=rfl
theorem Dj(f:Nat)(es:List To):Zm (f+1) (Ap es)=91::(Ax (es.map (Zm f))++[93]):=rfl
theorem KD(f:Nat)(es:List (Lit×To)):Zm (f+1) (Ay es)=123::(Ax (((ZJ es).mergeSort fun x y=>decide (x<=y)).map fun k=>Ag k++58::Zm f (ZV es k))++[125]):=rfl
theorem P6(l:List By)(x:By):BL (l++[x])=BL l++44::x:=by
 induction l with
 | nil=>simp[BL]
 | cons y r ih=>simp[BL,ih]
theorem JQ(l:List By)(i:Nat)(h:i<l.length):Ax (l.take (i+1))=Ax (l.take i)++((if 0<i then [44] else [])++l[i]):=by
 rw[AT h];cases l with
 | nil=>simp at h
 | cons x r=>
  cases i with
  | zero=>simp[Ax,BL]
  | succ i=>simp only[List.take_succ_cons,List.cons_append,Ax,P6];simp
theorem Dh(l:List By)(i:Nat):(Ax (l.take i)).length<=(Ax l).length:=by
 have h:∀ (r:List By) (i:Nat),(BL (r.take i)).length<=(BL r).length:=by
  intro r;induction r with
  | nil=>grind
  | cons x r ih=>
   intro i;cases i with
   | zero=>simp[BL]
   | succ i=>grind [BL,Ax]
 cases l with
 | nil=>simp
 | cons x r=>
  cases i with
  | zero=>simp[Ax]
  | succ i=>grind [BL,Ax]
theorem Sl(s:By)(i:Nat)(h:i<s.length):CO (s.take (i+1))=CO (s.take i)++DP s[i]:=by
 have ha:∀ (a b:By),CO (a++b)=CO a++CO b:=by
  intro a b;induction a with
  | nil=>rfl
  | cons c r ih=>simp[CO,ih]
 rw[AT h,ha];simp[CO]
theorem UE(c:UInt8):(DP c).length<=6:=by
 grind [DP]
theorem Jb(s:By):(CO s).length<=6*s.length:=by
 induction s with
 | nil=>simp[CO]
 | cons c r ih=>have:=UE c;grind [CO]
structure Fr(B b:Nat)(w w':Bs):Prop where
 low:Below B w w'
 oth:OKz b w w'
theorem Fr.refl(B b:Nat)(w:Bs):Fr B b w w:=⟨CD _ _,OKz.refl _ _⟩
theorem Fr.trans{w1 w2 w3:Bs}(h:Fr B b w1 w2)(g:Fr B b w2 w3):Fr B b w1 w3:=⟨h.low.trans g.low,h.oth.trans g.oth⟩
abbrev Bu(B b:Nat)(l:By)(w:Bs):Prop:=IsB B b (A2 l) w
theorem X1(l:By)(c:UInt8):A2 l++[.int .u8 (c.toNat:Int)]=A2 (l++[c]):=by simp[A2]
theorem Bo{q0:By}(c:UInt8)(ci:Int)(hc:ci=c.toNat)(h:Bu B b q0 w)(hl:q0.length+1<=140737488355328)(hB:B<=w.heap.size):
  A5 AI 139 #[.pointer (some ⟨b,0,none⟩),.int .u8 ci] w fun e w'=>e=.returned .nilIface/\Bu B b (q0++[c]) w'/\Fr B b w w':=by
 refine (LU B b _ ci w h (by rw[A4];exact hl) hB).mono ?_;rintro e w' ⟨he,h1,h2,h3⟩;rw[hc,X1] at h1;exact⟨he,A3 h1,h2,h3⟩
theorem Fd{q0:By}(s:By)(h:Bu B b q0 w)(hl:q0.length+s.length<=140737488355328)(hB:B<=w.heap.size):
  A5 AI 107 #[.pointer (some ⟨b,0,none⟩),.string ⟨s.toArray⟩] w fun e w'=>e=.returned (.tuple #[.int .i64 s.length,.nilIface])/\Bu B b (q0++s) w'/\Fr B b w w':=by
 refine (Ka B b _ ⟨s.toArray⟩ w h (by rw[A4,AU];exact hl) hB).mono ?_;rintro e w' ⟨he,h1,h2,h3⟩;rw[Lib.strCells_toArray,<- Lib.byteCells_append] at h1;rw[AU] at he;exact⟨he,A3 h1,h2,h3⟩
def XH:ByteArray:=⟨#[48,49,50,51,52,53,54,55,56,57,97,98,99,100,101,102]⟩
theorem Wy:∀n,n<16->XH.data.toList.getD n 0=Hy n:=by decide
theorem R7(n:Nat)(h:n<16)(h2:n<(⟨#[48,49,50,51,52,53,54,55,56,57,97,98,99,100,101,102]⟩:ByteArray).size):((⟨#[48,49,50,51,52,53,54,55,56,57,97,98,99,100,101,102]⟩:ByteArray)[n]'h2)=Hy n:=by
 have:=Wy n h;rw[<- this];have h3:n<XH.data.toList.length:=h;simp only[List.getD,List.getElem?_eq_getElem h3,Option.getD_some];rfl
end Go.Proofs.YtdpomdelmdofmaaGreatDoor
