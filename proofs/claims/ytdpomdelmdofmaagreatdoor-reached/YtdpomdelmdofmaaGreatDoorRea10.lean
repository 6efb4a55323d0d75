import Derived.Test.YtdpomdelmdofmaaGreatDoorRea09
import Derived.Sort.KeysCollected
import Derived.Lib.ConvBytes
import Derived.Lib.AppendIntMem
import Derived.Sort.Grow
open List renaming take_succ_eq_append_getElem->AI
open Or renaming inl->AS,inr->A2
open Go.Lib renaming byteCells->AT,byteCells_length->A4
open Go.Proofs.Tryz renaming prog->A1
open Nat renaming le_refl->A3
open Go renaming World->A5
open Go.RowKit.Below renaming refl->A6
open UInt8 renaming ofNat->Bs
set_option maxHeartbeats 16000000
namespace Go.Proofs.YtdpomdelmdofmaaGreatDoor
open Go.Proofs.Tryz Go.RowKit
variable{w:A5}{t:By}{d x:Int}{B b:Nat}
theorem IG{l:By}{n:Nm}{r:By}(h:gO l=some (n,r))(hl:l.length<=2000):-10000000<=n.2.2/\n.2.2<=10000000:=by
 have hb:∀ (b:Bool) (l:By),l.length<=2000->CC b l=some (n,r) -> -10000000<=n.2.2/\n.2.2<=10000000:=by
  intro b l hl h;unfold CC at h;have a:=Cz l;split at h
  ·cases h
  ·split at h
   ·cases h
   ·rename_i f r1 h1;have a2:=FW h1;split at h
    ·cases h
    ·rename_i e r2 h2;have a3:=QU h2;have a4:=QA b (dg l++f) (e-f.length)
     grind
 unfold gO at h
 grind
theorem Zt(f:Nat):Gr f:=by
 induction f with
 | zero=>intro R t lv l tw dp fr w _ _ _ hl;omega
 | succ f ih=>
  intro R t lv l tw dp fr w h hT hR hl hlv hb;have qk:l.length<=f:=by omega
  have qh:lv+f<=4999:=by omega
  obtain⟨q,ha,hq⟩:=h;have q6:l.length<=2000:=by have:=ha.len;have:=ha.small;omega
  have c3:=hq.c3;have z3:=hq.fz 3;have qq:RD (w.setCell ⟨R,3,none⟩ (.int .i64 (max dp lv))) R t l tw (max dp lv) fr:=⟨q,ha,hq.set3 (max dp lv)⟩
  have qi:Ae R w (w.setCell ⟨R,3,none⟩ (.int .i64 (max dp lv))):=(Ae.refl R w).setCell rfl _;have qo:=hT.kept qi hR;have qr:(w.setCell ⟨R,3,none⟩ (.int .i64 (max dp lv))).heap.size=w.heap.size:=by simp_all
  clear hq ha hT hl hb
  go_enter func137,ntmps137
  go_wp2_with (fail);refine (Ku qq).mono ?_
  rintro e w1 ⟨rfl,q9,qj⟩;have q5:=qi.trans qj;have qd:=qo.kept qj hR;have qt:=q5.size;clear c3 z3;by_cases hp:eS l=123
  ·have qf:((eS l:Int)==123)=true:=by simp;omega
   have HV:Hid (eN (f+1) lv l (tw,dp,fr)=(match Bn 123 125 (Cr (eN f (lv+1))) l (Ap [],(tw,(max dp lv,fr))) with
     | none=>none
     | some (r,(v,fl'))=>some (v,r,fl'))):=by
    unfold Hid;rw[eN,if_pos hp];rfl
   clear hp
   go_wp2_with (fail);refine (RE ih q9 qd hR qk hlv qh).mono ?_
   rintro e w2 ⟨hk2,hc⟩;rcases hc with⟨v,r,fl',p,hs,rfl,q4,q7⟩|⟨hs,p,rfl,q4⟩
   ·have HS:=Ab hs;clear hs
    go_wp2_with (fail)
    go_ret2
    refine⟨q5.trans hk2,AS ⟨v,r,fl',p,?_,rfl,q4,q7.move (by omega) fun k h1 _=>rfl⟩⟩;rw[Aa HV,Aa HS]
   ·have HS:=Ab hs;clear hs
    go_wp2_with (fail)
    go_ret2
    refine⟨q5.trans hk2,A2 ⟨?_,p,rfl,q4⟩⟩;rw[Aa HV,Aa HS]
  have qf:((eS l:Int)==123)=false:=by simp;omega
  by_cases qb:eS l=91
  ·have qn:((eS l:Int)==91)=true:=by simp;omega
   have HV:Hid (eN (f+1) lv l (tw,dp,fr)=(match Bn 91 93 (CI (eN f (lv+1))) l ([],(tw,(max dp lv,fr))) with
     | none=>none
     | some (r,(es,fl'))=>some (Af es,r,fl'))):=by
    unfold Hid
    grind [eN,eS,Af]
   clear hp qb
   go_wp2_with (fail);refine (Vk ih q9 qd hR qk hlv qh).mono ?_
   rintro e w2 ⟨hk2,hc⟩;rcases hc with⟨es,r,fl',p,hs,rfl,q4,q7⟩|⟨hs,p,rfl,q4⟩
   ·have HS:=Ab hs;clear hs
    go_wp2_with (fail)
    go_ret2
    refine⟨q5.trans hk2,AS ⟨Af es,r,fl',p,?_,rfl,q4,q7.move (by omega) fun k h1 _=>rfl⟩⟩;rw[Aa HV,Aa HS]
   ·have HS:=Ab hs;clear hs
    go_wp2_with (fail)
    go_ret2
    refine⟨q5.trans hk2,A2 ⟨?_,p,rfl,q4⟩⟩;rw[Aa HV,Aa HS]
  have qn:((eS l:Int)==91)=false:=by simp;omega
  by_cases qe:eS l=34
  ·have qm:((eS l:Int)==34)=true:=by simp;omega
   have HV:Hid (eN (f+1) lv l (tw,dp,fr)=(match gG l with
     | none=>none
     | some (s,r)=>some (Ao s,r,(tw,(max dp lv,fr))))):=by
    unfold Hid
    grind [eS,eN,Ao]
   clear hp qb qe
   go_wp2_with (fail);refine (Ks q9 qd hR).mono ?_
   rintro e w2 ⟨hk2,hc⟩;have q0:=q5.trans hk2;have hs2:=hk2.size;rcases hc with⟨s,r,hs,rfl,q4⟩|⟨hs,s,r,rfl,q4⟩
   ·have HS:=Ab hs;clear hs
    go_wp2_with (fail)
    go_ret2
    refine⟨q0.alloc _,AS ⟨Ao s,r,(tw,(max dp lv,fr)),some ⟨w2.heap.size,0,none⟩,?_,rfl,q4.alloc _,Tr.leafS (by omega) (C3 _ _ _ rfl)⟩⟩;rw[Aa HV,Aa HS]
   ·have HS:=Ab hs;clear hs
    go_wp2_with (fail)
    go_ret2
    refine⟨q0.alloc _,A2 ⟨?_,_,rfl,_,_,_,_,q4.alloc _⟩⟩;rw[Aa HV,Aa HS]
  have qm:((eS l:Int)==34)=false:=by simp;omega
  by_cases q8:eS l=45\/(48<=eS l/\eS l<=57)
  ·have HV:Hid (eN (f+1) lv l (tw,dp,fr)=(match gO l with
     | none=>none
     | some (n,r)=>some (Bd n,r,(tw,(max dp lv,max (max fr n.2.2) (-n.2.2)))))):=by
    unfold Hid
    grind [eS,eN,BV]
   rcases q8 with q8|q8
   ·have qg:((eS l:Int)==45)=true:=by simp;omega
    clear hp qb qe q8
    go_wp2_with (fail);refine (KD q9).mono ?_
    rintro e w2 ⟨hk2,hc⟩;have q0:=q5.trans hk2;have hs2:=hk2.size;rcases hc with⟨n,r,hs,rfl,q4⟩|⟨hs,rfl,r,q4⟩
    ·have HS:=Ab hs;obtain⟨nb,nd,ne⟩:=n;clear hs;unfold BV
     go_wp2_with (fail)
     go_ret2
     refine⟨(q0.alloc _).alloc _,AS ⟨Bd (nb,nd,ne),r,(tw,(max dp lv,max (max fr ne) (-ne))),some ⟨w2.heap.size+1,0,none⟩,?_,rfl,(q4.alloc _).alloc _,Tr.leafN (by omega) (C3 _ _ _ (by simp)) ⟨by have:=IG (Aa HS) q6;omega,by have:=IG (Aa HS) q6;omega⟩⟩⟩;rw[Aa HV,Aa HS]
    ·have HS:=Ab hs;clear hs;unfold BV
     go_wp2_with (fail)
     go_ret2
     refine⟨(q0.alloc _).alloc _,A2 ⟨?_,_,rfl,_,_,_,_,(q4.alloc _).alloc _⟩⟩;rw[Aa HV,Aa HS]
   ·have qg:((eS l:Int)==45)=false:=by simp;omega
    have HD:=Ab (show CF (eS l)=true by unfold CF;simp;omega);clear hp qb qe q8
    go_wp2_with (fail);refine (BL _ _ (Kt l)).mono ?_
    rintro e w9 ⟨rfl,rfl⟩;rw[Aa HD]
    go_wp2_with (fail);refine (KD q9).mono ?_
    rintro e w2 ⟨hk2,hc⟩;have q0:=q5.trans hk2;have hs2:=hk2.size;rcases hc with⟨n,r,hs,rfl,q4⟩|⟨hs,rfl,r,q4⟩
    ·have HS:=Ab hs;obtain⟨nb,nd,ne⟩:=n;clear hs;unfold BV
     go_wp2_with (fail)
     go_ret2
     refine⟨(q0.alloc _).alloc _,AS ⟨Bd (nb,nd,ne),r,(tw,(max dp lv,max (max fr ne) (-ne))),some ⟨w2.heap.size+1,0,none⟩,?_,rfl,(q4.alloc _).alloc _,Tr.leafN (by omega) (C3 _ _ _ (by simp)) ⟨by have:=IG (Aa HS) q6;omega,by have:=IG (Aa HS) q6;omega⟩⟩⟩;rw[Aa HV,Aa HS]
    ·have HS:=Ab hs;clear hs;unfold BV
     go_wp2_with (fail)
     go_ret2
     refine⟨(q0.alloc _).alloc _,A2 ⟨?_,_,rfl,_,_,_,_,(q4.alloc _).alloc _⟩⟩;rw[Aa HV,Aa HS]
  have qg:((eS l:Int)==45)=false:=by simp;omega
  have HV:Hid (eN (f+1) lv l (tw,dp,fr)=(match Cu l 0 gL with
    | none=>none
    | some (k,r)=>some (AF k,r,(tw,(max dp lv,fr))))):=by
   unfold Hid
   grind [eS,eN,AF]
  have HD:=Ab (show CF (eS l)=false by unfold CF;simp;omega);clear hp qb qe q8
  go_wp2_with (fail);refine (BL _ _ (Kt l)).mono ?_
  rintro e w9 ⟨rfl,rfl⟩;rw[Aa HD]
  go_wp2_with (fail);refine (Vu q9 qd).mono ?_
  rintro e w2 ⟨hk2,hc⟩;have q0:=q5.trans hk2;rcases hc with⟨k,r,b,hs,rfl,qp,hvb,hb2,q4⟩|⟨hs,rfl,q4⟩
  ·have HS:=Ab hs;clear hs
   go_wp2_with (fail)
   go_ret2
   refine⟨q0,AS ⟨AF k,r,(tw,(max dp lv,fr)),some ⟨b,0,none⟩,?_,rfl,q4,Tr.leafW (by omega) qp hvb⟩⟩;rw[Aa HV,Aa HS]
  ·have HS:=Ab hs;clear hs
   go_wp2_with (fail)
   go_ret2
   refine⟨q0,A2 ⟨?_,none,rfl,_,_,_,_,q4⟩⟩;rw[Aa HV,Aa HS]
def top:Nat:=2001
theorem E1:top=2001:=rfl
def eH(t:By)(q0 ex:Int):Nat×Option To:=
 if 2000<t.length then (4,none) else
 match eN top 1 (eF t) (false,(0,0)) with
 | none=>(5,none)
 | some (v,r,fl)=>if (eF r).isEmpty then (if fl.1 then (6,none) else if q0<fl.2.1 then (7,none) else if ex<fl.2.2 then (8,none) else (0,some v)) else (5,none)
theorem Tr.drewN{f lo:Nat}{v:Value}{d:To}(h:Tr f lo w v d)(n:Nat):Tr f lo (w.drewN n) v d:=h.move (A3 _) fun _ _ _=>rfl
def Vv(l:By)(fl:Fl)(e:Ending)(w w':A5)(R:Nat)(t:ByteArray):Prop:=
 (∃v r fl' p,eN top 1 (eF l) fl=some (v,r,fl')/\e=.returned (.tuple #[.pointer p,.bool (eF r).isEmpty])/\RD w' R t (eF r) fl'.1 fl'.2.1 fl'.2.2/\Tr top w.heap.size w' (.pointer p) v) \/
  (eN top 1 (eF l) fl=none /\ ∃p,e=.returned (.tuple #[.pointer p,.bool false]) /\ ∃r tw dp fr,RD w' R t r tw dp fr)
theorem ST{R:Nat}{t:ByteArray}{l:By}{tw:Bool}{dp fr:Int}(h:RD w R t l tw dp fr)(hT:Ai w)(hR:NG<=R):
  Calls A1 102 #[.pointer (some ⟨R,0,none⟩)] w fun e w'=>Ae R w w'/\Vv l (tw,(dp,fr)) e w w' R t:=by
 have qf:=h.lt;have q8:l.length<=2000:=by obtain⟨p,ha,_⟩:=h;have:=ha.len;have:=ha.small;omega
 have qh:=AY l;have qe:=E1
 go_enter func102,ntmps102
 go_wp2_with (fail);refine (BZ h).mono ?_
 rintro e w1 ⟨rfl,qb,q5⟩
 go_wp2_with (fail);refine (Zt top R t 1 _ _ _ _ w1 qb (hT.kept q5 hR) hR (by omega) (by omega) (by omega)).mono ?_
 rintro e w2 ⟨hk2,hc⟩;have q0:=q5.trans hk2;have qg:=q5.size;rcases hc with⟨v,r,fl',p,hs,rfl,q6,q7⟩|⟨hs,p,rfl,q6⟩
 ·have HS:=Ab hs;clear hs hT
  go_wp2_with (fail);refine (BZ q6).mono ?_
  rintro e w3 ⟨rfl,qd,q9⟩;have q4:Tr top w.heap.size w3 (.pointer p) v:=q7.move (by omega) fun k h1 h2=>q9.block k h2 (by omega);obtain⟨q,ha,hq⟩:=qd;have c0:=hq.c0;have c1:=hq.c1;have hem:((q:Int)==(t.size:Int))=(eF r).isEmpty:=by
   have e1:=ha.len;have e2:=ha.le;cases hx:eF r with
   | nil=>grind
   | cons a b=>grind
  have HE:=Ab hem;have HA:=Ab ha;have HQ:=Ab hq;clear ha hq hem
  go_wp2_with (fail)
  go_quiet (fail)
  go_wp2_with (fail);rw[Aa HE]
  go_ret2
  exact⟨(q0.trans q9).drewN _,AS ⟨v,r,fl',p,Aa HS,rfl,⟨q,Aa HA,(Aa HQ).drewN _⟩,q4.drewN _⟩⟩
 ·have HS:=Ab hs;clear hs hT
  go_wp2_with (fail)
  go_ret2
  exact⟨q0,A2 ⟨Aa HS,none,rfl,q6⟩⟩
def Yv(t:By)(q0 ex:Int)(e:Ending)(w w':A5):Prop:=
 (∃c,eH t q0 ex=(c,none)/\0<c/\e=.returned (.tuple #[.pointer none,.int .i64 (c:Nat)])) \/
  (∃v p,eH t q0 ex=(0,some v)/\e=.returned (.tuple #[.pointer (some p),.int .i64 0])/\Tr top w.heap.size w' (.pointer (some p)) v)
theorem PH(h:2000<t.length):eH t d x=(4,none):=by unfold eH;grind
theorem PG(h:¬ 2000<t.length)(hv:eN top 1 (eF t) (false,(0,0))=none):eH t d x=(5,none):=by unfold eH;grind
theorem Jx(h:¬ 2000<t.length){v:To}{r:By}{fl:Fl}(hv:eN top 1 (eF t) (false,(0,0))=some (v,r,fl)):
  eH t d x=if (eF r).isEmpty then (if fl.1 then (6,none) else if d<fl.2.1 then (7,none) else if x<fl.2.2 then (8,none) else (0,some v)) else (5,none):=by unfold eH;grind
theorem XA(s:ByteArray)(q0 ex:Int)(w:A5)(hT:Ai w):
  Calls A1 77 #[.string s,.int .i64 q0,.int .i64 ex] w fun e w'=>Below w.heap.size w w'/\Yv s.data.toList q0 ex e w w':=by
 have q7:s.data.toList.length=s.size:=(Lib.size_eq s).symm;by_cases hl:2000<s.size
 ·have h0:=Ab (PH (d:=q0) (x:=ex) (show 2000<s.data.toList.length by omega));have e0:decide ((2000:Int)<(s.size:Int))=true:=by simp;omega
  clear hT q7
  go_enter func77,ntmps77
  go_wp2_with (fail)
  go_ret2
  exact⟨A6 _ _,AS ⟨4,Aa h0,by omega,rfl⟩⟩
 ·have e0:decide ((2000:Int)<(s.size:Int))=false:=by simp;omega
  have hn:¬ 2000<s.data.toList.length:=by omega
  have hR:=hT.ng;have q9:Ae w.heap.size w (w.alloc (.cells #[.string s,.int .i64 0,.bool false,.int .i64 0,.int .i64 0] 155)):=(Ae.refl _ w).alloc _;have q8:RD (w.alloc (.cells #[.string s,.int .i64 0,.bool false,.int .i64 0,.int .i64 0] 155)) w.heap.size s s.data.toList false 0 0:=by
   refine⟨0,⟨by omega,by omega,rfl⟩,?_⟩;show (w.heap.push _)[w.heap.size]? = _;simp
  have qd:=hT.kept (X:=w.heap.size) q9 hR;clear hT
  go_enter func77,ntmps77
  go_wp2_with (fail);refine (ST q8 qd hR).mono ?_
  rintro e w2 ⟨hk2,hc⟩;have q6:=q9.trans hk2;have hb2:Below w.heap.size w w2:=q6.below (A3 _) (A3 _);rcases hc with⟨v,r,fl',p,hs,rfl,qb,q4⟩|⟨hs,p,rfl,qb⟩
  ·have h0:=Ab (Jx (d:=q0) (x:=ex) hn hs);obtain⟨tw,dp,fr⟩:=fl';obtain⟨bb,rfl⟩:∃bb,p=some bb:=by
    obtain⟨b,hb,_⟩:=q4.ptr
    grind
   have q5:Tr top w.heap.size w2 (.pointer (some bb)) v:=q4.move (by simp) fun k h1 _=>rfl;obtain⟨q,ha,hq⟩:=qb;simp only at hq;have c2:=hq.c2;have c3:=hq.c3;have c4:=hq.c4;clear hs q8 ha hq q4;cases hem:(eF r).isEmpty with
   | false=>
    have h1:=Ab (show eH s.data.toList q0 ex=(5,none) from by rw[Aa h0,hem];rfl);clear hem h0
    go_wp2_with (fail)
    go_ret2
    exact⟨hb2,AS ⟨5,Aa h1,by omega,rfl⟩⟩
   | true=>
    cases htw:tw with
    | true=>
     have h1:=Ab (show eH s.data.toList q0 ex=(6,none) from by rw[Aa h0,hem];simp[htw]);subst htw;clear hem h0
     go_wp2_with (fail)
     go_ret2
     exact⟨hb2,AS ⟨6,Aa h1,by omega,rfl⟩⟩
    | false=>
     subst htw;by_cases h7:q0<dp
     ·have h1:=Ab (show eH s.data.toList q0 ex=(7,none) from by rw[Aa h0,hem];simp[h7]);have e7:decide (q0<dp)=true:=by grind
      clear hem h0
      go_wp2_with (fail)
      go_ret2
      exact⟨hb2,AS ⟨7,Aa h1,by omega,rfl⟩⟩
     ·have e7:decide (q0<dp)=false:=by grind
      by_cases h8:ex<fr
      ·have h1:=Ab (show eH s.data.toList q0 ex=(8,none) from by rw[Aa h0,hem];simp[h7,h8]);have e8:decide (ex<fr)=true:=by grind
       clear hem h0
       go_wp2_with (fail)
       go_ret2
       exact⟨hb2,AS ⟨8,Aa h1,by omega,rfl⟩⟩
      ·have h1:=Ab (show eH s.data.toList q0 ex=(0,some v) from by rw[Aa h0,hem];simp[h7,h8]);have e8:decide (ex<fr)=false:=by grind
       clear hem h0
       go_wp2_with (fail)
       go_ret2
       exact⟨hb2,A2 ⟨v,_,Aa h1,rfl,q5⟩⟩
  ·have h1:=Ab (PG (d:=q0) (x:=ex) hn hs);clear hs q8
   go_wp2_with (fail)
   go_ret2
   exact⟨hb2,AS ⟨5,Aa h1,by omega,rfl⟩⟩
def FU(n:Nat):UInt8:=if n<10 then Bs (48+n) else Bs (87+n)
def B1(c:UInt8):By:=if c.toNat=34\/c.toNat=92 then [92,c] else if c.toNat<32 then [92,117,48,48,FU (c.toNat / 16),FU (c.toNat % 16)] else [c]
def AK:By->By
 | []=>[]
 | c::r=>B1 c++AK r
def Ag(s:By):By:=34::(AK s++[34])
def Cm(n:Nm):By:=if n.2.1=[] then [48] else (if n.1 then [45] else [])++(n.2.1++(if n.2.2=0 then [] else 101::Lib.itoa n.2.2))
def BC:List By->By
 | []=>[]
 | x::r=>44::(x++BC r)
def Am:List By->By
 | []=>[]
 | x::r=>x++BC r
def fB(es:List (Lit×To)):List By:=es.map fun p=>match p.1 with | .string b=>b|_=>[]
def fT(es:List (Lit×To))(k:By):To:=DataW.atKey (.map es) (.string k) .nil
def dZ:Nat->To->By
 | 0,_=>[]
 | f+1,d=>match d with
  | .lit (.int _ k)=>gL.getD k.toNat []
  | .lit (.string s)=>Ag s
  | .agg [.lit (.bool ng),.lit (.string ds),.lit (.int _ ex)]=>Cm (ng,ds,ex)
  | .slice es _=>91::(Am (es.map (dZ f))++[93])
  | .map es=>123::(Am (((fB es).mergeSort fun x y=>decide (x<=y)).map fun k=>Ag k++58::dZ f (fT es k))++[125])
  | _=>[]
theorem Hv(f k:Nat):dZ (f+1) (AF k)=gL.getD k []:=rfl
theorem Jr(f:Nat)(n:Nm):dZ (f+1) (Bd n)=Cm n:=rfl
theorem GW(f:Nat)(s:By):dZ (f+1) (Ao s)=Ag s:=rfl
theorem CV(f:Nat)(es:List To):dZ (f+1) (Af es)=91::(Am (es.map (dZ f))++[93]):=rfl
theorem GX(f:Nat)(es:List (Lit×To)):dZ (f+1) (Ap es)=123::(Am (((fB es).mergeSort fun x y=>decide (x<=y)).map fun k=>Ag k++58::dZ f (fT es k))++[125]):=rfl
theorem RU(l:List By)(x:By):BC (l++[x])=BC l++44::x:=by
 induction l with
 | nil=>simp[BC]
 | cons y r ih=>simp[BC,ih]
theorem KQ(l:List By)(i:Nat)(h:i<l.length):Am (l.take (i+1))=Am (l.take i)++((if 0<i then [44] else [])++l[i]):=by
 rw[AI h];cases l with
 | nil=>simp at h
 | cons x r=>
  cases i with
  | zero=>simp[Am,BC]
  | succ i=>simp only[List.take_succ_cons,List.cons_append,Am,RU];simp
theorem DF(l:List By)(i:Nat):(Am (l.take i)).length<=(Am l).length:=by
 have h:∀ (r:List By) (i:Nat),(BC (r.take i)).length<=(BC r).length:=by
  intro r;induction r with
  | nil=>grind
  | cons x r ih=>
   intro i;cases i with
   | zero=>simp[BC]
   | succ i=>grind [BC,Am]
 cases l with
 | nil=>simp
 | cons x r=>
  cases i with
  | zero=>simp[Am]
  | succ i=>grind [BC,Am]
theorem UD(s:By)(i:Nat)(h:i<s.length):AK (s.take (i+1))=AK (s.take i)++B1 s[i]:=by
 have ha:∀ (a b:By),AK (a++b)=AK a++AK b:=by
  intro a b;induction a with
  | nil=>rfl
  | cons c r ih=>simp[AK,ih]
 rw[AI h,ha];simp[AK]
theorem O0(c:UInt8):(B1 c).length<=6:=by
 grind [B1]
theorem J2(s:By):(AK s).length<=6*s.length:=by
 induction s with
 | nil=>simp[AK]
 | cons c r ih=>have:=O0 c;grind [AK]
structure Fr(B b:Nat)(w w':A5):Prop where
 low:Below B w w'
 oth:OKz b w w'
theorem Fr.refl(B b:Nat)(w:A5):Fr B b w w:=⟨A6 _ _,OKz.refl _ _⟩
theorem Fr.trans{w1 w2 w3:A5}(h:Fr B b w1 w2)(g:Fr B b w2 w3):Fr B b w1 w3:=⟨h.low.trans g.low,h.oth.trans g.oth⟩
abbrev Bu(B b:Nat)(l:By)(w:A5):Prop:=IsB B b (AT l) w
theorem aT(l:By)(c:UInt8):AT l++[.int .u8 (c.toNat:Int)]=AT (l++[c]):=by simp[AT]
theorem BB{q0:By}(c:UInt8)(ci:Int)(hc:ci=c.toNat)(h:Bu B b q0 w)(hl:q0.length+1<=140737488355328)(hB:B<=w.heap.size):
  Calls A1 139 #[.pointer (some ⟨b,0,none⟩),.int .u8 ci] w fun e w'=>e=.returned .nilIface/\Bu B b (q0++[c]) w'/\Fr B b w w':=by
 refine (Nv B b _ ci w h (by rw[A4];exact hl) hB).mono ?_;rintro e w' ⟨he,h1,h2,h3⟩;rw[hc,aT] at h1;exact⟨he,A2 h1,h2,h3⟩
theorem JI{q0:By}(s:By)(h:Bu B b q0 w)(hl:q0.length+s.length<=140737488355328)(hB:B<=w.heap.size):
  Calls A1 107 #[.pointer (some ⟨b,0,none⟩),.string ⟨s.toArray⟩] w fun e w'=>e=.returned (.tuple #[.int .i64 s.length,.nilIface])/\Bu B b (q0++s) w'/\Fr B b w w':=by
 refine (Lg B b _ ⟨s.toArray⟩ w h (by rw[A4,Bc];exact hl) hB).mono ?_;rintro e w' ⟨he,h1,h2,h3⟩;rw[Lib.strCells_toArray,<- Lib.byteCells_append] at h1;rw[Bc] at he;exact⟨he,A2 h1,h2,h3⟩
def Z6:ByteArray:=⟨#[48,49,50,51,52,53,54,55,56,57,97,98,99,100,101,102]⟩
theorem YZ:∀n,n<16->Z6.data.toList.getD n 0=FU n:=by decide
theorem Um(n:Nat)(h:n<16)(h2:n<(⟨#[48,49,50,51,52,53,54,55,56,57,97,98,99,100,101,102]⟩:ByteArray).size):((⟨#[48,49,50,51,52,53,54,55,56,57,97,98,99,100,101,102]⟩:ByteArray)[n]'h2)=FU n:=by
 have:=YZ n h;rw[<- this];have h3:n<Z6.data.toList.length:=h;simp only[List.getD,List.getElem?_eq_getElem h3,Option.getD_some];rfl
theorem SL(n:Nm)(w:A5):Calls A1 138 #[BV n] w fun e w'=>e=.returned (.bool n.2.1.isEmpty)/\Below w.heap.size w w':=by
 obtain⟨nb,nd,ne⟩:=n;unfold BV
 go_enter func138,ntmps138
 go_wp2_with (fail)
 go_ret;exact⟨by simp,(A6 _ _).alloc (A3 _) _⟩
theorem Ai.tab(h:Ai w):Lib.TabIs A1 w "internal/strconv.uint64pow10" .u64 Lib.pow10Tab:=by
 obtain⟨t,fr,e⟩:=h.pow;unfold Lib.TabIs World.var?;rw[show Tryz.prog.globalNamed "internal/strconv.uint64pow10" = some 5 by kernel_rfl];simp[e]
theorem Fu(w:A5)(k:Nat)(os:Array Obj):Below w.heap.size w (Sort.grow (w.drewN k) os):=by
 refine⟨rfl,rfl,rfl,?_,?_⟩
 ·simp_all
 grind [Sort.grow,World.drewN]
theorem Wb(n:Nm):(Cm n).length<=n.2.1.length+3+(Lib.itoa n.2.2).length:=by
 unfold Cm
 grind
end Go.Proofs.YtdpomdelmdofmaaGreatDoor
