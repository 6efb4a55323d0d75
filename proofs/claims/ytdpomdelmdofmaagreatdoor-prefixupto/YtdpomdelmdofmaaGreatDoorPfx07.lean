import Derived.Test.YtdpomdelmdofmaaGreatDoorPfx06
import Derived.Deep.RegionHeld3
import Derived.Deep.AppendLies
import Derived.Deep.DrawnRows
import Derived.Deep.RegionLaw
open List renaming length_tail->AI,mem_cons->A1,mem_flatMap->A3,nodup_cons->A4,singleton_append->CR,mem_append->D3,nil_append->E0,nodup_nil->Ft,Sublist->F2
open Nat renaming le_refl->AS,lt_succ_self->D0
open Or renaming inr->AT,inl->Bs
open Go renaming World->A2,Value->A5,step_append_lies->D1,DataW->F5,Calls->G0
open Go.Proofs.Tryz renaming prog->A6
open Go.RowKit.Below renaming heap_alloc->BY,heap_setCell->DD
open Go.World renaming cell?->CD,cell?_of_block->C2,news_of_block->Dp,setCell->Dt
open Go.WideShapes renaming insert_perm->CH
open Go.DataW renaming insert->CL,put->G1
open Go.Value renaming ownBlock->C1,oneCell'->F1
open Go.World.grownBy renaming mk->D2
set_option maxHeartbeats 4000000
set_option maxRecDepth 100000
namespace Go.Proofs.YtdpomdelmdofmaaGreatDoor
open Go.Proofs.Tryz Go.RowKit
variable{w w' w0:A2}{R f lo b p0 p1 p2 vb N1:Nat}{t:ByteArray}{l:By}{tw:Bool}{dp fr lv:Int}{sl v:A5}{d:To}{own:Option Nat}{ps:List A5}{es:List (Lit×To)}{D:List (Lit×F5 A5)}
theorem RD.uniq{t':ByteArray}{l':By}{q4:Bool}{q5 q0:Int}(h:RD w R t l tw dp fr)(h':RD w R t' l' q4 q5 q0):t=t'/\l=l'/\tw=q4/\dp=q5/\fr=q0:=by
 obtain⟨p,a,h⟩:=h;obtain⟨p',a',h'⟩:=h';have e:=(show w.heap[R]? = _ from h).symm.trans (show w.heap[R]? = _ from h');simp at e;obtain⟨e1,e2,e3,e4,e5⟩:=e;subst e1;have:p=p':=by omega
 subst this;exact⟨rfl,a.eq.symm.trans a'.eq,e3,e4,e5⟩
structure ItemOk{σ:Type}(g:FuncId)(caps:Array A5)(R:Nat)(t:ByteArray)(N:Nat)(item:By->σ->Option (By×σ))(I:A2->By->σ->Prop)(J:A2->Prop):Prop where
 rd:∀w l s,I w l s -> ∃tw dp fr,RD w R t l tw dp fr
 move:∀w w' l l' s tw dp fr,I w l s->RD w R t l tw dp fr->RD w' R t l' tw dp fr->Ae R w w'->l'.length<=l.length->I w' l' s
 out:∀w l s,I w l s->J w
 len:∀l s l' s',item l s=some (l',s')->l'.length<l.length
 call:∀w l s,I w l s->l.length<N->G0 A6 g caps w fun e w'=>
  (∃l' s',item l s=some (l',s')/\e=.returned (.bool true)/\I w' l' s')\/(item l s=none/\e=.returned (.bool false)/\J w')
def O6{σ:Type}(o:Option (By×σ))(e:Ending)(w':A2)(I:A2->By->σ->Prop)(J:A2->Prop):Prop:=
 (∃l' s',o=some (l',s')/\e=.returned (.bool true)/\I w' l' s')\/(o=none/\e=.returned (.bool false)/\J w')
theorem Uf{σ:Type}(p0 p1 p2:A5)(op cl:UInt8)(qb q4:Int)(q6:qb=op.toNat)(q8:q4=cl.toNat)(R:Nat)(t:ByteArray)(N:Nat)(item:By->σ->Option (By×σ))(I:A2->By->σ->Prop)(J:A2->Prop)(K:ItemOk 219 #[p0,p1,p2] R t N item I J)(w:A2)(l:By)(s:σ)(hI:I w l s)(hN:l.length<=N):
  G0 A6 216 #[.pointer (some ⟨R,0,none⟩),.int .u8 qb,.int .u8 q4,.func (.func 219) #[] #[p0,p1,p2]] w fun e w'=>O6 (Bq op cl item l s) e w' I J:=by
 obtain⟨tw,dp,fr,hr⟩:=K.rd _ _ _ hI;have HI:=Ab hI;have HO:=Ab q6;have HC:=Ab q8;clear hI q6 q8;by_cases k1:Zn l op=true
 ·have K1:=Ab k1;have qq:=BH k1;clear k1
  go_enter func216,ntmps216
  go_wp2_with (fail);refine (Ar op qb (Aa HO) hr (Aa K1)).mono ?_
  rintro e w1 ⟨rfl,qh,qd⟩
  go_wp2_with (fail);refine (BT qh).mono ?_
  rintro e w2 ⟨rfl,q5,hk2⟩;have qn:=Bb l.tail;have I2:=Ab (K.move _ _ _ _ _ _ _ _ (Aa HI) hr q5 (qd.trans hk2) (by first|exact AS _|omega|(simp only[AI];omega)));by_cases k2:Zn (Zu l.tail) cl=true
  ·have K2:=Ab k2;clear k2
   go_wp2_with (fail);refine (Ar cl q4 (Aa HC) q5 (Aa K2)).mono ?_
   rintro e w3 ⟨rfl,qe,qf⟩
   go_wp2_with (fail)
   go_ret;refine Bs ⟨_,s,?_,rfl,K.move _ _ _ _ _ _ _ _ (Aa I2) q5 qe qf (by first|exact AS _|omega|(simp only[AI];omega))⟩
   unfold Bq;rw[Aa K1,Aa K2];rfl
  ·have K2:=Ab (AA k2);clear k2
   go_wp2_with (fail);refine (AP cl q4 (Aa HC) q5 (Aa K2)).mono ?_
   rintro e w3 ⟨rfl,qe,qf⟩;have I3:=Ab (K.move _ _ _ _ _ _ _ _ (Aa I2) q5 qe qf (by first|exact AS _|omega|(simp only[AI];omega)));have hE:Hid (Bq op cl item l s=Z7 cl item ((Zu l.tail).length+1) (Zu l.tail) s):=by
    unfold Hid Bq;rw[Aa K1,Aa K2];rfl
   have hb:(Zu l.tail).length<N:=by omega
   generalize Zu l.tail=l2 at *;clear hr qh q5 qd hk2 qf K1 K2 HI I2 qq qn hN
   go_wp2_with (fail)
   go_loopw [18] (fun _ wr=>∃ (n:Nat) (l':By) (s':σ),I wr l' s'/\l'.length<n/\l'.length<N/\Z7 cl item (l2.length+1) l2 s=Z7 cl item n l' s') (fun _ wr=>left wr R)
   case atStart=>exact⟨_,l2,s,Aa I3,D0 _,hb,rfl⟩
   case round=>
    obtain⟨n,l',s',hi,hn,qy,he⟩:=hrel;obtain⟨m,rfl⟩:∃m,n=m+1:=⟨n-1,by omega⟩
    obtain⟨tw,dp,fr,hr⟩:=K.rd _ _ _ hi;have HI:=Ab hi;have HE:=Ab he;have HL:=Ab hr.left;have qn:=Bb l';clear hi he I3 qe
    go_wp2_with (fail);refine (BT hr).mono ?_
    rintro e w4 ⟨rfl,qo,qr⟩;have I4:=Ab (K.move _ _ _ _ _ _ _ _ (Aa HI) hr qo qr (by first|exact AS _|omega|(simp only[AI];omega)))
    go_wp2_with (fail);refine (K.call _ _ _ (Aa I4) (by omega)).mono ?_
    rintro e w5 hc;rcases hc with⟨l5,s5,hit,rfl,qi⟩|⟨hit,rfl,hJ⟩
    ·obtain⟨qx,qz,qw,qm⟩:=K.rd _ _ _ qi;have I5:=Ab qi;have q7:=Ab hit;have qv:=K.len _ _ _ _ hit;have qt:=Bb l5;clear qi hit
     go_wp2_with (fail);refine (BT qm).mono ?_
     rintro e w6 ⟨rfl,q9,qp⟩;have I6:=Ab (K.move _ _ _ _ _ _ _ _ (Aa I5) qm q9 qp (by first|exact AS _|omega|(simp only[AI];omega)));by_cases k3:Zn (Zu l5) cl=true
     ·have K3:=Ab k3;clear k3
      go_wp2_with (fail);refine (Ar cl q4 (Aa HC) q9 (Aa K3)).mono ?_
      rintro e w7 ⟨rfl,q0,qk⟩
      go_wp2_with (fail)
      go_ret;refine Bs ⟨_,s5,?_,rfl,K.move _ _ _ _ _ _ _ _ (Aa I6) q9 q0 qk (by first|exact AS _|omega|(simp only[AI];omega))⟩
      rw[Aa hE,Aa HE,Z7,Aa q7];simp only;rw[Aa K3];rfl
     ·have K3:=Ab (AA k3);clear k3
      go_wp2_with (fail);refine (AP cl q4 (Aa HC) q9 (Aa K3)).mono ?_
      rintro e w7 ⟨rfl,q0,qk⟩;have I7:=Ab (K.move _ _ _ _ _ _ _ _ (Aa I6) q9 q0 qk (by first|exact AS _|omega|(simp only[AI];omega)));by_cases k4:Zn (Zu l5) 44=true
      ·have K4:=Ab k4;have qu:=BH k4;clear k4
       go_wp2_with (fail);refine (Ar 44 _ rfl q0 (Aa K4)).mono ?_
       rintro e w8 ⟨rfl,qg,qj⟩;have I8:=Ab (K.move _ _ _ _ _ _ _ _ (Aa I7) q0 qg qj (by first|exact AS _|omega|(simp only[AI];omega)))
       go_wp2_with (fail)
       go_roundw
       case rel=>
        refine⟨m,_,s5,Aa I8,by omega,by omega,?_⟩;rw[Aa HE,Z7,Aa q7];simp only;rw[Aa K3,Aa K4];rfl
       case measure=>rw[qg.left,Aa HL];omega
      ·have K4:=Ab (AA k4);clear k4
       go_wp2_with (fail);refine (AP 44 _ rfl q0 (Aa K4)).mono ?_
       rintro e w8 ⟨rfl,qg,qj⟩
       go_wp2_with (fail)
       go_ret;refine AT ⟨?_,rfl,K.out _ _ _ (K.move _ _ _ _ _ _ _ _ (Aa I7) q0 qg qj (by first|exact AS _|omega|(simp only[AI];omega)))⟩
       rw[Aa hE,Aa HE,Z7,Aa q7];simp only;rw[Aa K3,Aa K4];rfl
    ·have q7:=Ab hit;clear hit
     go_wp2_with (fail)
     go_ret;refine AT ⟨?_,rfl,hJ⟩
     rw[Aa hE,Aa HE,Z7,Aa q7]
 ·have K1:=Ab (AA k1);clear k1
  go_enter func216,ntmps216
  go_wp2_with (fail);refine (AP op qb (Aa HO) hr (Aa K1)).mono ?_
  rintro e w1 ⟨rfl,qh,qd⟩
  go_wp2_with (fail)
  go_ret;refine AT ⟨?_,rfl,K.out _ _ _ (K.move _ _ _ _ _ _ _ _ (Aa HI) hr qh qd (by first|exact AS _|omega|(simp only[AI];omega)))⟩
  unfold Bq;rw[Aa K1];rfl
theorem Ue{σ:Type}(p0 p1 p2:A5)(op cl:UInt8)(qb q4:Int)(q6:qb=op.toNat)(q8:q4=cl.toNat)(R:Nat)(t:ByteArray)(N:Nat)(item:By->σ->Option (By×σ))(I:A2->By->σ->Prop)(J:A2->Prop)(K:ItemOk 217 #[p0,p1,p2] R t N item I J)(w:A2)(l:By)(s:σ)(hI:I w l s)(hN:l.length<=N):
  G0 A6 216 #[.pointer (some ⟨R,0,none⟩),.int .u8 qb,.int .u8 q4,.func (.func 217) #[] #[p0,p1,p2]] w fun e w'=>O6 (Bq op cl item l s) e w' I J:=by
 obtain⟨tw,dp,fr,hr⟩:=K.rd _ _ _ hI;have HI:=Ab hI;have HO:=Ab q6;have HC:=Ab q8;clear hI q6 q8;by_cases k1:Zn l op=true
 ·have K1:=Ab k1;have qq:=BH k1;clear k1
  go_enter func216,ntmps216
  go_wp2_with (fail);refine (Ar op qb (Aa HO) hr (Aa K1)).mono ?_
  rintro e w1 ⟨rfl,qh,qd⟩
  go_wp2_with (fail);refine (BT qh).mono ?_
  rintro e w2 ⟨rfl,q5,hk2⟩;have qn:=Bb l.tail;have I2:=Ab (K.move _ _ _ _ _ _ _ _ (Aa HI) hr q5 (qd.trans hk2) (by first|exact AS _|omega|(simp only[AI];omega)));by_cases k2:Zn (Zu l.tail) cl=true
  ·have K2:=Ab k2;clear k2
   go_wp2_with (fail);refine (Ar cl q4 (Aa HC) q5 (Aa K2)).mono ?_
   rintro e w3 ⟨rfl,qe,qf⟩
   go_wp2_with (fail)
   go_ret;refine Bs ⟨_,s,?_,rfl,K.move _ _ _ _ _ _ _ _ (Aa I2) q5 qe qf (by first|exact AS _|omega|(simp only[AI];omega))⟩
   unfold Bq;rw[Aa K1,Aa K2];rfl
  ·have K2:=Ab (AA k2);clear k2
   go_wp2_with (fail);refine (AP cl q4 (Aa HC) q5 (Aa K2)).mono ?_
   rintro e w3 ⟨rfl,qe,qf⟩;have I3:=Ab (K.move _ _ _ _ _ _ _ _ (Aa I2) q5 qe qf (by first|exact AS _|omega|(simp only[AI];omega)));have hE:Hid (Bq op cl item l s=Z7 cl item ((Zu l.tail).length+1) (Zu l.tail) s):=by
    unfold Hid Bq;rw[Aa K1,Aa K2];rfl
   have hb:(Zu l.tail).length<N:=by omega
   generalize Zu l.tail=l2 at *;clear hr qh q5 qd hk2 qf K1 K2 HI I2 qq qn hN
   go_wp2_with (fail)
   go_loopw [18] (fun _ wr=>∃ (n:Nat) (l':By) (s':σ),I wr l' s'/\l'.length<n/\l'.length<N/\Z7 cl item (l2.length+1) l2 s=Z7 cl item n l' s') (fun _ wr=>left wr R)
   case atStart=>exact⟨_,l2,s,Aa I3,D0 _,hb,rfl⟩
   case round=>
    obtain⟨n,l',s',hi,hn,qy,he⟩:=hrel;obtain⟨m,rfl⟩:∃m,n=m+1:=⟨n-1,by omega⟩
    obtain⟨tw,dp,fr,hr⟩:=K.rd _ _ _ hi;have HI:=Ab hi;have HE:=Ab he;have HL:=Ab hr.left;have qn:=Bb l';clear hi he I3 qe
    go_wp2_with (fail);refine (BT hr).mono ?_
    rintro e w4 ⟨rfl,qo,qr⟩;have I4:=Ab (K.move _ _ _ _ _ _ _ _ (Aa HI) hr qo qr (by first|exact AS _|omega|(simp only[AI];omega)))
    go_wp2_with (fail);refine (K.call _ _ _ (Aa I4) (by omega)).mono ?_
    rintro e w5 hc;rcases hc with⟨l5,s5,hit,rfl,qi⟩|⟨hit,rfl,hJ⟩
    ·obtain⟨qx,qz,qw,qm⟩:=K.rd _ _ _ qi;have I5:=Ab qi;have q7:=Ab hit;have qv:=K.len _ _ _ _ hit;have qt:=Bb l5;clear qi hit
     go_wp2_with (fail);refine (BT qm).mono ?_
     rintro e w6 ⟨rfl,q9,qp⟩;have I6:=Ab (K.move _ _ _ _ _ _ _ _ (Aa I5) qm q9 qp (by first|exact AS _|omega|(simp only[AI];omega)));by_cases k3:Zn (Zu l5) cl=true
     ·have K3:=Ab k3;clear k3
      go_wp2_with (fail);refine (Ar cl q4 (Aa HC) q9 (Aa K3)).mono ?_
      rintro e w7 ⟨rfl,q0,qk⟩
      go_wp2_with (fail)
      go_ret;refine Bs ⟨_,s5,?_,rfl,K.move _ _ _ _ _ _ _ _ (Aa I6) q9 q0 qk (by first|exact AS _|omega|(simp only[AI];omega))⟩
      rw[Aa hE,Aa HE,Z7,Aa q7];simp only;rw[Aa K3];rfl
     ·have K3:=Ab (AA k3);clear k3
      go_wp2_with (fail);refine (AP cl q4 (Aa HC) q9 (Aa K3)).mono ?_
      rintro e w7 ⟨rfl,q0,qk⟩;have I7:=Ab (K.move _ _ _ _ _ _ _ _ (Aa I6) q9 q0 qk (by first|exact AS _|omega|(simp only[AI];omega)));by_cases k4:Zn (Zu l5) 44=true
      ·have K4:=Ab k4;have qu:=BH k4;clear k4
       go_wp2_with (fail);refine (Ar 44 _ rfl q0 (Aa K4)).mono ?_
       rintro e w8 ⟨rfl,qg,qj⟩;have I8:=Ab (K.move _ _ _ _ _ _ _ _ (Aa I7) q0 qg qj (by first|exact AS _|omega|(simp only[AI];omega)))
       go_wp2_with (fail)
       go_roundw
       case rel=>
        refine⟨m,_,s5,Aa I8,by omega,by omega,?_⟩;rw[Aa HE,Z7,Aa q7];simp only;rw[Aa K3,Aa K4];rfl
       case measure=>rw[qg.left,Aa HL];omega
      ·have K4:=Ab (AA k4);clear k4
       go_wp2_with (fail);refine (AP 44 _ rfl q0 (Aa K4)).mono ?_
       rintro e w8 ⟨rfl,qg,qj⟩
       go_wp2_with (fail)
       go_ret;refine AT ⟨?_,rfl,K.out _ _ _ (K.move _ _ _ _ _ _ _ _ (Aa I7) q0 qg qj (by first|exact AS _|omega|(simp only[AI];omega)))⟩
       rw[Aa hE,Aa HE,Z7,Aa q7];simp only;rw[Aa K3,Aa K4];rfl
    ·have q7:=Ab hit;clear hit
     go_wp2_with (fail)
     go_ret;refine AT ⟨?_,rfl,hJ⟩
     rw[Aa hE,Aa HE,Z7,Aa q7]
 ·have K1:=Ab (AA k1);clear k1
  go_enter func216,ntmps216
  go_wp2_with (fail);refine (AP op qb (Aa HO) hr (Aa K1)).mono ?_
  rintro e w1 ⟨rfl,qh,qd⟩
  go_wp2_with (fail)
  go_ret;refine AT ⟨?_,rfl,K.out _ _ _ (K.move _ _ _ _ _ _ _ _ (Aa HI) hr qh qd (by first|exact AS _|omega|(simp only[AI];omega)))⟩
  unfold Bq;rw[Aa K1];rfl
abbrev Zf:=F5 Unit
def Zj(b g:Nat)(x:Zf):Zf:=.agg [.lit (.int .i64 b),.lit (.int .i64 g),x]
def Zi:Nat->Zf->To
 | 0,_=>.nil
 | f+1,a=>match a with
  | .agg [.lit (.int _ _),.lit (.int _ _),x]=>(match x with
   | .slice al _=>Ap (al.map (Zi f))
   | .map es=>Ay (es.map fun p=>(p.1,Zi f p.2))
   | y=>y)
  | _=>.nil
def fp:Nat->Zf->List Nat
 | 0,_=>[]
 | f+1,a=>match a with
  | .agg [.lit (.int _ b),.lit (.int _ g),x]=>b.toNat::(match x with
   | .slice al _=>(if g=0 then [] else [g.toNat])++al.flatMap (fp f)
   | .map es=>g.toNat::es.flatMap (fun p=>fp f p.2)
   | _=>[])
  | _=>[]
theorem Ty(f b g k:Nat):Zi (f+1) (Zj b g (AO k))=AO k:=rfl
theorem VM(f b g:Nat)(n:Nm):Zi (f+1) (Zj b g (Bv n))=Bv n:=rfl
theorem VK(f b g:Nat)(s:By):Zi (f+1) (Zj b g (Aq s))=Aq s:=rfl
theorem Bn(f b g:Nat)(al:List Zf):Zi (f+1) (Zj b g (.slice al []))=Ap (al.map (Zi f)):=rfl
theorem AZ(f b g:Nat)(es:List (Lit×Zf)):Zi (f+1) (Zj b g (.map es))=Ay (es.map fun p=>(p.1,Zi f p.2)):=rfl
theorem Em(f b g k:Nat):fp (f+1) (Zj b g (AO k))=[b]:=rfl
theorem Fs(f b g:Nat)(n:Nm):fp (f+1) (Zj b g (Bv n))=[b]:=rfl
theorem Fq(f b g:Nat)(s:By):fp (f+1) (Zj b g (Aq s))=[b]:=rfl
theorem AN(f b g:Nat)(al:List Zf):fp (f+1) (Zj b g (.slice al []))=b::((if g=0 then [] else [g])++al.flatMap (fp f)):=by
 show ((b:Int).toNat::((if (g:Int)=0 then [] else [(g:Int).toNat])++al.flatMap (fp f)))=_
 grind
theorem Bi(f b g:Nat)(es:List (Lit×Zf)):fp (f+1) (Zj b g (.map es))=b::g::es.flatMap (fun p=>fp f p.2):=rfl
def Ad:Nat->A2->A5->Zf->Prop
 | 0,_,_,_=>False
 | f+1,w,v,a=>∃b g x,a=Zj b g x/\v=.pointer (some ⟨b,0,none⟩) /\
  ((∃k:Nat,k<3/\g=0/\x=AO k/\VB w b k n0 [] (.slice none 0 0) (.map none)) \/
   (∃n,g=0/\x=Bv n/\VB w b 3 n [] (.slice none 0 0) (.map none) /\ -100000000<=n.2.2/\n.2.2<=100000000) \/
   (∃s,g=0/\x=Aq s/\VB w b 4 n0 s (.slice none 0 0) (.map none)) \/
   (∃al sl ps,x=.slice al []/\VB w b 5 n0 [] sl (.map none)/\w.ownsRow 0 80 1 sl ps.length ps/\sl.ownBlock=(if g=0 then none else some g)/\Al (Ad f w) ps al) \/
   (∃es n D,x=.map es/\VB w b 6 n0 [] (.slice none 0 0) (.map (some g))/\w.ownsMap A6 9 RV g n (.map D)/\Pt (Ad f w) D es))
theorem Al.mem{α β:Type}{P Q:α->β->Prop}:∀ {l:List α} {m:List β},(∀a b,b∈m->P a b->Q a b)->Al P l m->Al Q l m
 | [],[],_,_=>trivial
 | _::_,_::_,h,⟨a,b⟩=>⟨h _ _ (by simp) a,Al.mem (fun a b hb hp=>h a b (by simp[hb]) hp) b⟩
theorem Pt.mem{P Q:A5->To->Prop}:∀ {l:List (Lit×F5 A5)} {m:List (Lit×To)},(∀a p,p∈m->P a p.2->Q a p.2)->Pt P l m->Pt Q l m
 | [],[],_,_=>trivial
 | _::_,_::_,h,⟨⟨k,x,e,a⟩,b⟩=>⟨⟨k,x,e,h _ _ (by simp) a⟩,Pt.mem (fun a p hp hq=>h a p (by simp[hp]) hq) b⟩
theorem Al.mapR{α β γ:Type}{P:α->γ->Prop}{q:β->γ}:∀ {l:List α} {m:List β},Al (fun a b=>P a (q b)) l m->Al P l (m.map q)
 | [],[],_=>trivial
 | _::_,_::_,⟨a,b⟩=>⟨a,Al.mapR b⟩
theorem Pt.mapR{P:A5->To->Prop}{q:To->To}:∀ {l:List (Lit×F5 A5)} {m:List (Lit×To)},Pt (fun a b=>P a (q b)) l m->Pt P l (m.map fun p=>(p.1,q p.2))
 | [],[],_=>trivial
 | _::_,_::_,⟨⟨k,x,e,a⟩,b⟩=>⟨⟨k,x,e,a⟩,Pt.mapR b⟩
theorem Gb{g k:Nat}(h:sl.ownBlock=(if g=0 then none else some g))(hk:sl.ownBlock=some k):k=g/\g≠0:=by
 grind
theorem Ad.move{w w':A2}:∀ {f:Nat} {v:A5} {a:Zf},(∀k∈fp f a,w'.heap[k]? = w.heap[k]?)->Ad f w v a->Ad f w' v a
 | 0,_,_,_,h=>h.elim
 | f+1,v,a,hk,h=>by
  obtain⟨b,g,x,rfl,hv,h⟩:=h;rcases h with⟨k,h1,h2,rfl,h⟩|⟨n,h2,rfl,h,q4⟩|⟨s,h2,rfl,h⟩|⟨al,sl,ps,rfl,h,ho,hs,ha⟩|⟨es,n,D,rfl,h,ho,hp⟩
  ·exact⟨b,g,_,rfl,hv,Bs ⟨k,h1,h2,rfl,h.kept (hk b (by rw[Em];simp))⟩⟩
  ·exact⟨b,g,_,rfl,hv,AT (Bs ⟨n,h2,rfl,h.kept (hk b (by rw[Fs];simp)),q4⟩)⟩
  ·exact⟨b,g,_,rfl,hv,AT (AT (Bs ⟨s,h2,rfl,h.kept (hk b (by rw[Fq];simp))⟩))⟩
  ·rw[AN] at hk;refine⟨b,g,_,rfl,hv,AT (AT (AT (Bs ⟨al,sl,ps,rfl,h.kept (hk b (by simp)),AX ho fun g' q5=>?_,hs,Al.mem (fun u c hc hu=>Ad.move (fun k q0=>hk k ?_) hu) ha⟩)))⟩
   ·grind
   grind
  ·rw[Bi] at hk;refine⟨b,g,_,rfl,hv,AT (AT (AT (AT ⟨es,n,D,rfl,h.kept (hk b (by simp)),Aj ho (hk g (by simp)),Pt.mem (fun u p hp hu=>Ad.move (fun k q0=>hk k ?_) hu) hp⟩)))⟩
   grind
theorem Ad.ptr{a:Zf}(h:Ad f w v a):∃b,v=.pointer (some ⟨b,0,none⟩)/\b<w.heap.size/\b∈fp f a:=by
 cases f with
 | zero=>exact h.elim
 | succ f=>
  obtain⟨b,g,x,rfl,hv,h⟩:=h;refine⟨b,hv,?_,?_⟩
  ·rcases h with⟨k,_,_,rfl,h⟩|⟨n,_,rfl,h,_⟩|⟨s,_,rfl,h⟩|⟨al,sl,ps,rfl,h,_⟩|⟨es,n,D,rfl,h,_⟩
   all_goals exact h.lt
  ·rcases h with⟨k,_,_,rfl,h⟩|⟨n,_,rfl,h,_⟩|⟨s,_,rfl,h⟩|⟨al,sl,ps,rfl,h,_⟩|⟨es,n,D,rfl,h,_⟩
   ·rw[Em];simp
   ·rw[Fs];simp
   ·rw[Fq];simp
   ·rw[AN];simp
   ·rw[Bi];simp
theorem Al.right{α β:Type}{P:α->β->Prop}{b:β}:∀ {l:List α} {m:List β},Al P l m->b∈m -> ∃a,P a b
 | [],[],_,h=>by cases h
 | a::_,c::_,⟨h1,h2⟩,h=>by
  rcases A1.1 h with rfl|h
  ·grind
  ·exact Al.right h2 h
theorem Pt.right{P:A5->To->Prop}{p:Lit×To}:∀ {l:List (Lit×F5 A5)} {m:List (Lit×To)},Pt P l m->p∈m -> ∃a,P a p.2
 | [],[],_,h=>by cases h
 | _::_,_::_,⟨⟨_,x,_,h1⟩,h2⟩,h=>by
  rcases A1.1 h with rfl|h
  ·grind
  ·exact Pt.right h2 h
theorem Ad.lt{w:A2}:∀ {f:Nat} {v:A5} {a:Zf},Ad f w v a -> ∀k∈fp f a,k<w.heap.size
 | 0,_,_,h=>h.elim
 | f+1,v,a,h=>by
  intro k hk;obtain⟨b,g,x,rfl,hv,h⟩:=h;rcases h with⟨j,_,_,rfl,h⟩|⟨n,_,rfl,h,_⟩|⟨s,_,rfl,h⟩|⟨al,sl,ps,rfl,h,ho,hs,ha⟩|⟨es,n,D,rfl,h,ho,hp⟩
  ·rw[Em] at hk;obtain rfl:k=b:=by grind
   exact h.lt
  ·rw[Fs] at hk;obtain rfl:k=b:=by grind
   exact h.lt
  ·rw[Fq] at hk;obtain rfl:k=b:=by grind
   exact h.lt
  ·rw[AN] at hk;rcases A1.1 hk with rfl|hk
   ·exact h.lt
   ·rcases D3.1 hk with hk|hk
    ·split at hk
     ·cases hk
     ·rename_i h0;obtain rfl:k=g:=by grind
      exact (Aw ho k (by grind)).1
    ·obtain⟨c,hc,q0⟩:=A3.1 hk;obtain⟨u,hu⟩:=ha.right hc;exact Ad.lt hu k q0
  ·rw[Bi] at hk;rcases A1.1 hk with rfl|hk
   ·exact h.lt
   ·rcases A1.1 hk with rfl|hk
    ·exact A7 ho
    ·obtain⟨p,q4,q0⟩:=A3.1 hk;obtain⟨u,hu⟩:=hp.right q4;exact Ad.lt hu k q0
theorem Ad.rep{F:Nat->Prop}{w:A2}:∀ {f:Nat} {v:A5} {a:Zf},(∀k∈fp f a,F k)->Ad f w v a->Rep f F w v (Zi f a)
 | 0,_,_,_,h=>h.elim
 | f+1,v,a,hF,h=>by
  obtain⟨b,g,x,rfl,hv,h⟩:=h;rcases h with⟨k,h1,h2,rfl,h⟩|⟨n,h2,rfl,h,q4⟩|⟨s,h2,rfl,h⟩|⟨al,sl,ps,rfl,h,ho,hs,ha⟩|⟨es,n,D,rfl,h,ho,hp⟩
  ·exact⟨b,hv,hF b (by rw[Em];simp),Bs ⟨k,h1,rfl,h⟩⟩
  ·exact⟨b,hv,hF b (by rw[Fs];simp),AT (Bs ⟨n,rfl,h,q4⟩)⟩
  ·exact⟨b,hv,hF b (by rw[Fq];simp),AT (AT (Bs ⟨s,rfl,h⟩))⟩
  ·rw[AN] at hF;refine⟨b,hv,hF b (by simp),AT (AT (AT (Bs ⟨al.map (Zi f),sl,ps,Bn _ _ _ _,h,ho,fun g' q5=>?_,Al.mapR (Al.mem (fun u c hc hu=>Ad.rep (fun k q0=>hF k ?_) hu) ha)⟩)))⟩
   ·grind
   grind
  ·rw[Bi] at hF;refine⟨b,hv,hF b (by simp),AT (AT (AT (AT ⟨es.map (fun p=>(p.1,Zi f p.2)),g,n,D,AZ _ _ _ _,h,hF g (by simp),ho,Pt.mapR (Pt.mem (fun u p hp hu=>Ad.rep (fun k q0=>hF k ?_) hu) hp)⟩)))⟩
   grind
def Tr(f lo:Nat)(w:A2)(v:A5)(d:To):Prop:=∃a,Ad f w v a/\Zi f a=d/\(fp f a).Nodup /\ ∀k∈fp f a,lo<=k
theorem Tr.rep(h:Tr f lo w v d):Rep f (fun k=>lo<=k) w v d:=by
 obtain⟨a,h1,rfl,_,h3⟩:=h;exact h1.rep h3
theorem Tr.move{q0:Nat}(h:Tr f lo w v d)(hl:q0<=lo)(hk:∀k,lo<=k->k<w.heap.size->w'.heap[k]? = w.heap[k]?):Tr f q0 w' v d:=by
 obtain⟨a,h1,h2,h3,h4⟩:=h;exact⟨a,h1.move fun k q4=>hk k (h4 k q4) (h1.lt k q4),h2,h3,by grind⟩
theorem Tr.ptr(h:Tr f lo w v d):∃b,v=.pointer (some ⟨b,0,none⟩)/\b<w.heap.size/\lo<=b:=by
 obtain⟨a,h1,_,_,h4⟩:=h;obtain⟨b,e,hb,hm⟩:=h1.ptr
 grind
theorem Tr.leafW{k:Nat}(hb:lo<=b)(hk:k<3)(h:VB w b k n0 [] (.slice none 0 0) (.map none)):Tr (f+1) lo w (.pointer (some ⟨b,0,none⟩)) (AO k):=
 ⟨Zj b 0 (AO k),⟨b,0,_,rfl,rfl,by grind⟩,rfl,by rw[Em];simp,by rw[Em];grind⟩
theorem Tr.leafN{n:Nm}(hb:lo<=b)(h:VB w b 3 n [] (.slice none 0 0) (.map none))(h1:-100000000<=n.2.2/\n.2.2<=100000000):Tr (f+1) lo w (.pointer (some ⟨b,0,none⟩)) (Bv n):=
 ⟨Zj b 0 (Bv n),⟨b,0,_,rfl,rfl,by grind⟩,rfl,by rw[Fs];simp,by rw[Fs];grind⟩
theorem Tr.leafS{s:By}(hb:lo<=b)(h:VB w b 4 n0 s (.slice none 0 0) (.map none)):Tr (f+1) lo w (.pointer (some ⟨b,0,none⟩)) (Aq s):=
 ⟨Zj b 0 (Aq s),⟨b,0,_,rfl,rfl,by grind⟩,rfl,by rw[Fq];simp,by rw[Fq];grind⟩
def TrL(f lo:Nat)(own:Option Nat)(w:A2)(ps:List A5)(es:List To):Prop:=
 ∃al:List Zf,Al (Ad f w) ps al/\al.map (Zi f)=es/\(al.flatMap (fp f)).Nodup /\ ∀k∈al.flatMap (fp f),lo<=k/\own≠some k
theorem TrL.nil(f lo:Nat)(own:Option Nat)(w:A2):TrL f lo own w [] []:=⟨[],trivial,rfl,Ft,fun k hk=>by cases hk⟩
theorem TrL.length{es:List To}(h:TrL f lo own w ps es):ps.length=es.length:=by
 obtain⟨al,h1,rfl,_⟩:=h;rw[List.length_map];exact h1.length
theorem Al.lts{al:List Zf}(h:Al (Ad f w) ps al):∀k∈al.flatMap (fp f),k<w.heap.size:=by
 intro k hk;obtain⟨c,hc,q0⟩:=A3.1 hk;obtain⟨u,hu⟩:=h.right hc;exact hu.lt k q0
theorem TrL.move{q0:Option Nat}{es:List To}(h:TrL f lo own w ps es)(hk:∀k,lo<=k->own≠some k->k<w.heap.size->w'.heap[k]? = w.heap[k]? /\ q0≠some k):TrL f lo q0 w' ps es:=by
 obtain⟨al,h1,h2,h3,h4⟩:=h;refine⟨al,Al.mem (fun u c hc hu=>hu.move fun k q5=>?_) h1,h2,h3,fun k q4=>?_⟩
 ·exact⟨(h4 k q4).1,(hk k (h4 k q4).1 (h4 k q4).2 (h1.lts k q4)).2⟩
 ·have hm:k∈al.flatMap (fp f):=by grind
  exact (hk k (h4 k hm).1 (h4 k hm).2 (h1.lts k hm)).1
theorem TrL.snoc{q0:Option Nat}{w2 w4:A2}{es:List To}(h:TrL f lo own w ps es)(hv:Tr f w.heap.size w2 v d)(q5:lo<=w.heap.size)(hk:∀k,lo<=k->own≠some k->k<w.heap.size->w4.heap[k]? = w.heap[k]? /\ q0≠some k)(q4:∀k,w.heap.size<=k->k<w2.heap.size->w4.heap[k]? = w2.heap[k]? /\ q0≠some k):TrL f lo q0 w4 (ps++[v]) (es++[d]):=by
 obtain⟨al,h1,h2,h3,h4⟩:=h;obtain⟨a,g1,g2,g3,g4⟩:=hv;have hl:=h1.lts;have ha:∀k∈al.flatMap (fp f),w4.heap[k]? = w.heap[k]? /\ q0≠some k:=by grind
 refine⟨al++[a],Al.snoc (g1.move fun k hm=>(q4 k (g4 k hm) (g1.lt k hm)).1) (Al.mem (fun u c hc hu=>hu.move (by grind)) h1),by grind,?_,?_⟩
 ·grind
 ·intro k hm;rw[List.flatMap_append] at hm;rcases D3.1 hm with hm|hm
  ·grind
  ·have hm:k∈fp f a:=by grind
   have:=g4 k hm;exact⟨by omega,(q4 k this (g1.lt k hm)).2⟩
theorem TrL.arr{q4:Nat}{es:List To}(h:TrL f lo sl.ownBlock w ps es)(hb:q4<=b)(q5:b<lo)(hvb:VB w b 5 n0 [] sl (.map none))(ho:w.ownsRow 0 80 1 sl ps.length ps)(hs:∀g,sl.ownBlock=some g->lo<=g):Tr (f+1) q4 w (.pointer (some ⟨b,0,none⟩)) (Ap es):=by
 obtain⟨al,h1,rfl,h3,h4⟩:=h;have q0:b ∉ al.flatMap (fp f):=by grind
 cases hsl:sl.ownBlock with
 | none=>
  refine⟨Zj b 0 (.slice al []),⟨b,0,_,rfl,rfl,by grind⟩,rfl,?_,?_⟩
  ·rw[AN,if_pos rfl,E0,A4];exact⟨q0,h3⟩
  ·intro k hk;rw[AN,if_pos rfl,E0] at hk;rcases A1.1 hk with rfl|hk
   ·exact hb
   ·have:=(h4 k hk).1;omega
 | some g=>
  have s1:=hs g hsl;have s3:g≠0:=by omega
  refine⟨Zj b g (.slice al []),⟨b,g,_,rfl,rfl,by grind⟩,rfl,?_,?_⟩
  ·rw[AN,if_neg s3,A4,CR,A4];refine⟨fun hm=>?_,fun hm=>(h4 g hm).2 hsl,h3⟩;rcases A1.1 hm with e|hm
   ·omega
   ·exact q0 hm
  ·intro k hk;rw[AN,if_neg s3,CR] at hk;rcases A1.1 hk with rfl|hk
   ·exact hb
   ·rcases A1.1 hk with rfl|hk
    ·omega
    ·have:=(h4 k hk).1;omega
def TrM(f lo:Nat)(w:A2)(D:List (Lit×F5 A5))(es:List (Lit×To)):Prop:=
 ∃al:List (Lit×Zf),Pt (Ad f w) D al/\(al.map fun p=>(p.1,Zi f p.2))=es/\(al.flatMap fun p=>fp f p.2).Nodup /\ ∀k∈al.flatMap fun p=>fp f p.2,lo<=k
theorem TrM.nil(f lo:Nat)(w:A2):TrM f lo w [] []:=⟨[],trivial,rfl,Ft,fun k hk=>by cases hk⟩
theorem Pt.lts{al:List (Lit×Zf)}(h:Pt (Ad f w) D al):∀k∈al.flatMap (fun p=>fp f p.2),k<w.heap.size:=by
 intro k hk;obtain⟨c,hc,q0⟩:=A3.1 hk;obtain⟨u,hu⟩:=h.right hc;exact hu.lt k q0
theorem TrM.move(h:TrM f lo w D es)(hk:∀k,lo<=k->k<w.heap.size->w'.heap[k]? = w.heap[k]?):TrM f lo w' D es:=by
 obtain⟨al,h1,h2,h3,h4⟩:=h;refine⟨al,Pt.mem (fun u p hp hu=>hu.move fun k q0=>?_) h1,h2,h3,h4⟩;have hm:k∈al.flatMap (fun p=>fp f p.2):=by grind
 exact hk k (h4 k hm) (h1.lts k hm)
theorem YY{α β:Type}(g:α->List β){l m:List α}(h:F2 l m):F2 (l.flatMap g) (m.flatMap g):=by
 induction h with
 | slnil=>grind
 | cons a _ ih=>grind
 | cons_cons a _ ih=>grind
theorem M9(f:Nat)(x:Lit×Zf)(l:List (Lit×Zf)):(CL x l).map (fun p=>(p.1,Zi f p.2))=CL (x.1,Zi f x.2) (l.map fun p=>(p.1,Zi f p.2)):=by
 induction l with
 | nil=>rfl
 | cons y r ih=>
  simp only[CL,List.map_cons]
  grind
theorem TrM.put{w5 w6:A2}{k:Lit}{x:A5}(h:TrM f lo w D es)(hv:Tr f w.heap.size w5 x d)(q5:lo<=w.heap.size)(hk:∀j,lo<=j->j<w.heap.size->w6.heap[j]? = w.heap[j]?)(q0:∀j,w.heap.size<=j->j<w5.heap.size->w6.heap[j]? = w5.heap[j]?):
  ∃D' es',G1 (.map D) k (.held x)=.map D'/\G1 (.map es:To) k d=.map es'/\TrM f lo w6 D' es':=by
 obtain⟨al,h1,rfl,h3,h4⟩:=h;obtain⟨a,g1,rfl,g3,g4⟩:=hv;have hl:=h1.lts;have g6:Ad f w6 x a:=g1.move fun j hm=>q0 j (g4 j hm) (g1.lt j hm);have h6:Pt (Ad f w6) D al:=Pt.mem (fun u p hp hu=>hu.move (by grind)) h1;refine⟨_,_,rfl,rfl,CL (k,a) (al.filter fun p=>!p.1.sameKey k),Pt.insert k x a g6 (Pt.filter (fun c=>!c.sameKey k) h6),?_,?_,?_⟩
 ·rw[M9,List.filter_map];rfl
 ·have hp:=(CH (k,a) (al.filter fun p=>!p.1.sameKey k)).flatMap_right (fun p=>fp f p.2)
  grind
 ·intro j hj;obtain⟨p,hp,q4⟩:=A3.1 hj;rcases A1.1 ((CH _ _).mem_iff.1 hp) with rfl|hp
  ·grind
  ·exact h4 j (by grind)
theorem TrM.pt(h:TrM f lo w D es):Pt (Rep f (fun k=>lo<=k) w) D es:=by
 obtain⟨al,h1,rfl,_,h4⟩:=h;exact Pt.mapR (Pt.mem (fun u p hp hu=>hu.rep fun k hk=>h4 k (by grind)) h1)
theorem TrM.obj{q0 m n:Nat}(h:TrM f lo w D es)(hb:q0<=b/\b<lo)(hm:q0<=m/\m<lo)(q4:b≠m)(hvb:VB w b 6 n0 [] (.slice none 0 0) (.map (some m)))(ho:w.ownsMap A6 9 RV m n (.map D)):Tr (f+1) q0 w (.pointer (some ⟨b,0,none⟩)) (Ay es):=by
 obtain⟨al,h1,rfl,h3,h4⟩:=h;refine⟨Zj b m (.map al),⟨b,m,_,rfl,rfl,by grind⟩,rfl,?_,?_⟩
 ·rw[Bi,A4,A4]
  grind
 ·intro k hk;rw[Bi] at hk
  grind
def Fe(f:Nat)(lv:Int)(l:By)(fl:Fl)(e:Ending)(w w':A2)(R:Nat)(t:ByteArray):Prop:=
 (∃d r fl' p,ZD f lv l fl=some (d,r,fl')/\e=.returned (.tuple #[.pointer p,.bool true])/\RD w' R t r fl'.1 fl'.2.1 fl'.2.2/\Tr f w.heap.size w' (.pointer p) d) \/
  (ZD f lv l fl=none /\ ∃p,e=.returned (.tuple #[.pointer p,.bool false]) /\ ∃r tw dp fr,RD w' R t r tw dp fr)
def Ez(f:Nat):Prop:=∀ (R:Nat) (t:ByteArray) (lv:Int) (l:By) (tw:Bool) (dp fr:Int) (w:A2),RD w R t l tw dp fr->Af w->NG<=R->l.length<f->0<=lv->lv+f<=5000 ->
 G0 A6 137 #[.pointer (some ⟨R,0,none⟩),.int .i64 lv] w fun e w'=>Ae R w w'/\Fe f lv l (tw,dp,fr) e w w' R t
structure DF(w0:A2)(R p0 p1 p2 vb N1:Nat):Prop where
 r:R<w0.heap.size
 ng:NG<=R
 a0:w0.heap.size<=p0/\p0<N1
 a1:w0.heap.size<=p1/\p1<N1
 a2:w0.heap.size<=p2/\p2<N1
 av:w0.heap.size<=vb/\vb<N1
 d0:p0≠vb
 d1:p1≠vb
 d2:p2≠vb
structure Jm(f R:Nat)(t:ByteArray)(lv:Int)(w0:A2)(p0 p1 p2 vb N1:Nat)(w:A2)(l:By)(s:List To×Fl):Prop where
 rd:RD w R t l s.2.1 s.2.2.1 s.2.2.2
 kept:Ae R w0 w
 laid:Af w
 b0:w.heap[p0]? = some (.cells #[.pointer (some ⟨R,0,none⟩)] 153 (0,0))
 b1:w.heap[p1]? = some (.cells #[.int .i64 lv] 3 (0,0))
 b2:w.heap[p2]? = some (.cells #[.pointer (some ⟨vb,0,none⟩)] 80 (0,0))
 sz:N1<=w.heap.size
 len:s.1.length+l.length<=2001
 el:∃sl ps,VB w vb 5 n0 [] sl (.map none)/\w.ownsRow N1 80 1 sl ps.length ps/\TrL f N1 sl.ownBlock w ps s.1
def RdJ(R:Nat)(t:ByteArray)(w0:A2)(p2 vb:Nat)(w:A2):Prop:=Ae R w0 w/\(∃l tw dp fr,RD w R t l tw dp fr)/\w.heap[p2]? = some (.cells #[.pointer (some ⟨vb,0,none⟩)] 80 (0,0))
theorem QE:(Tryz.prog.info? 80).map (fun i=>(i.zero,i.size,i.bytes))=some (some (.pointer none),1,8):=by kernel_rfl
theorem Ps(B:DF w0 R p0 p1 p2 vb N1){w2 w3:A2}{r:By}{s:List To×Fl}(hI:Jm f R t lv w0 p0 p1 p2 vb N1 w l s)(hk2:Ae R w w2)(q9:RD w2 R t r tw dp fr)(hvb:VB w vb 5 n0 [] sl (.map none))(q6:w.ownsRow N1 80 1 sl ps.length ps)(hal:TrL f N1 sl.ownBlock w ps s.1){p:Option Addr}{o:Obj}{g cap:Nat}(q5:w3.ownsRow N1 80 1 (.slice (some ⟨g,0,none⟩) (ps.length+1) cap) (ps.length+1) (ps++[.pointer p]))(q0:(w2.alloc o).grownBy w3 sl.ownBlock)(qf:sl.ownBlock=some g\/g=w2.heap.size+1):
  Ae R w0 (w3.setCell ⟨vb,5,none⟩ (.slice (some ⟨g,0,none⟩) (ps.length+1) cap))/\RD (w3.setCell ⟨vb,5,none⟩ (.slice (some ⟨g,0,none⟩) (ps.length+1) cap)) R t r tw dp fr /\
  (w3.setCell ⟨vb,5,none⟩ (.slice (some ⟨g,0,none⟩) (ps.length+1) cap)).heap[p2]? = some (.cells #[.pointer (some ⟨vb,0,none⟩)] 80 (0,0)) /\
  ∀ (d:To) (fl:Fl),fl=(tw,dp,fr)->Tr f w.heap.size w2 (.pointer p) d->r.length<l.length->Jm f R t lv w0 p0 p1 p2 vb N1 (w3.setCell ⟨vb,5,none⟩ (.slice (some ⟨g,0,none⟩) (ps.length+1) cap)) r (s.1++[d],fl):=by
 have bR:=B.r;have a0:=B.a0;have a1:=B.a1;have a2:=B.a2;have av:=B.av;have d0:=B.d0;have d1:=B.d1;have d2:=B.d2;have hsz:=hI.sz;have hs2:=hk2.size;have gs:=q0.size;have hsa:(w2.alloc o).heap.size=w2.heap.size+1:=by simp
 -- blocks of w2 that are no elements' row
 have k3:∀k,k<w2.heap.size->some k≠sl.ownBlock->w3.heap[k]? = w2.heap[k]?:=fun k h1 h2=>(q0.block k (by omega) h2).trans (BY w2 o k h1);have q4:∀k,k<N1->some k≠sl.ownBlock:=fun k hk h=>by have:=(Aw q6 k h.symm).2;omega
 have k4:∀k,k<w2.heap.size->some k≠sl.ownBlock->k≠vb->(w3.setCell ⟨vb,5,none⟩ (.slice (some ⟨g,0,none⟩) (ps.length+1) cap)).heap[k]? = w2.heap[k]?:=fun k h1 h2 h3=>(DD _ _ _ _ h3).trans (k3 k h1 h2);have hg:N1<=g:=(Aw q5 g rfl).2;have kx:Ae R w0 (w3.setCell ⟨vb,5,none⟩ (.slice (some ⟨g,0,none⟩) (ps.length+1) cap)):=by
  have hk:=hI.kept.trans hk2;refine⟨q0.os.trans hk.os,q0.tape.trans hk.tape,q0.output.trans hk.output,?_,?_⟩
  ·grind
  ·intro k h1 h2;exact (k4 k (by omega) (q4 k (by omega)) (by omega)).trans (hk.block k h1 h2)
 have q8:RD (w3.setCell ⟨vb,5,none⟩ (.slice (some ⟨g,0,none⟩) (ps.length+1) cap)) R t r tw dp fr:=by
  obtain⟨q,ha,hq⟩:=q9;exact⟨q,ha,(k4 R (RP.lt hq) (q4 R (by omega)) (by omega)).trans hq⟩
 have box:∀ (k:Nat) (ob:Obj),w0.heap.size<=k->k<N1->k≠vb->w.heap[k]? = some ob->(w3.setCell ⟨vb,5,none⟩ (.slice (some ⟨g,0,none⟩) (ps.length+1) cap)).heap[k]? = some ob:=fun k ob h1 h2 h3 h4=>
  (k4 k (by omega) (q4 k h2) h3).trans ((hk2.block k (by omega) (by omega)).trans h4)
 refine⟨kx,q8,box _ _ a2.1 a2.2 d2 hI.b2,?_⟩;rintro d fl rfl q7 qd;refine⟨q8,kx,hI.laid.below ⟨q0.os.trans hk2.os,q0.tape.trans hk2.tape,q0.output.trans hk2.output,by simp[Dt];omega,fun k hk=>(k4 k (by have:=B.ng;omega) (q4 k (by have:=B.ng;omega)) (by have:=B.ng;omega)).trans (hk2.block k (by have:=hI.laid.ng;omega) (by have:=B.ng;omega))⟩,box _ _ a0.1 a0.2 d0 hI.b0,box _ _ a1.1 a1.2 d1 hI.b1,box _ _ a2.1 a2.2 d2 hI.b2,by simp[Dt];omega,by have:=hI.len;grind,?_⟩;refine⟨.slice (some ⟨g,0,none⟩) (ps.length+1) cap,ps++[.pointer p],?_,?_,?_⟩
 ·have h5:=(k3 vb (by omega) (q4 vb (by omega))).trans (hvb.kept (hk2.block vb hvb.lt (by omega)));simp only[VB,Dt,Array.getElem?_modify]
  grind
 ·have:(ps++[Value.pointer p]).length=ps.length+1:=by simp
  rw[this];exact AX q5 (fun g' qe=>by
   have:g'=g:=by simpa[C1] using qe.symm
   subst this;exact DD _ _ _ _ (show g'≠vb by omega))
 ·refine TrL.snoc hal q7 hsz ?_ ?_
  ·intro k h0 h1 h2;have h3:some k≠sl.ownBlock:=fun h=>h1 h.symm;refine⟨(k4 k (by omega) h3 (by omega)).trans (hk2.block k h2 (by omega)),?_⟩;intro h;have qb:g=k:=by simpa[C1] using h
   grind
  ·intro k h1 h2;have h3:some k≠sl.ownBlock:=fun h=>by have:=(Aw q6 k h.symm).1;omega
   refine⟨k4 k h2 h3 (by omega),?_⟩;intro h;have qb:g=k:=by simpa[C1] using h
   grind
theorem U3(B:DF w0 R p0 p1 p2 vb N1)(hV:Ez f)(hlv:0<=lv)(w:A2)(l:By)(s:List To×Fl)(hI:Jm f R t lv w0 p0 p1 p2 vb N1 w l s)(hl:l.length<f)(hb:lv+f<=4999):
  G0 A6 219 #[.pointer (some ⟨p0,0,none⟩),.pointer (some ⟨p1,0,none⟩),.pointer (some ⟨p2,0,none⟩)] w fun e w'=>
  (∃l' s',Dr (ZD f (lv+1)) l s=some (l',s')/\e=.returned (.bool true)/\Jm f R t lv w0 p0 p1 p2 vb N1 w' l' s')\/(Dr (ZD f (lv+1)) l s=none/\e=.returned (.bool false)/\RdJ R t w0 p2 vb w'):=by
 obtain⟨i0,qk,hz0,qh,hz2⟩:=info_parts QE;have c0:w.cell? ⟨p0,0,none⟩=some (.pointer (some ⟨R,0,none⟩)):=by simp[CD,hI.b0]
 have c1:w.cell? ⟨p1,0,none⟩=some (.int .i64 lv):=by simp[CD,hI.b1]
 have qn:lv<=4999:=by omega
 go_enter func219,ntmps219
 go_wp2_with (fail);refine (hV R t (lv+1) l _ _ _ w hI.rd hI.laid B.ng hl (by omega) (by omega)).mono ?_
 rintro e w2 ⟨hk2,hc⟩;clear c0 c1;obtain⟨sl,ps,hvb,q4,hal⟩:=hI.el;have bR:=B.r;have a2:=B.a2;have av:=B.av;have d2:=B.d2;have hsz:=hI.sz;have hb2:w2.heap[p2]? = some (.cells #[.pointer (some ⟨vb,0,none⟩)] 80 (0,0)):=(hk2.block p2 (by omega) (by omega)).trans hI.b2;have q8:=hvb.kept (hk2.block vb hvb.lt (by omega));have q7:=AX q4 (fun g hg=>hk2.block g (Aw q4 g hg).1 (by have:=(Aw q4 g hg).2;omega));have q2:w2.cell? ⟨p2,0,none⟩=some (.pointer (some ⟨vb,0,none⟩)):=by simp[CD,hb2]
 have q5:w2.cell? ⟨vb,5,none⟩=some sl:=by simp[CD,show w2.heap[vb]? = _ from q8]
 have z5:w2.frozen? ⟨vb,5,none⟩=false:=by simp[World.frozen?,show w2.heap[vb]? = _ from q8]
 have hs2:=hk2.size;have qm:=(Array.getElem?_eq_some_iff.1 hb2).1;have qf:=q8.lt;have n2:some p2≠sl.ownBlock:=fun h=>by have:=(Aw q4 _ h.symm).2;omega
 have nv:some vb≠sl.ownBlock:=fun h=>by have:=(Aw q4 _ h.symm).2;omega
 have qg:∀o,(w2.alloc o).cell? ⟨p2,0,none⟩=some (.pointer (some ⟨vb,0,none⟩)):=fun o=>by rw[C2 (w:=w2) (BY w2 o p2 qm)];exact q2
 have qi:∀o,(w2.alloc o).cell? ⟨vb,5,none⟩=some sl:=fun o=>by rw[C2 (w:=w2) (BY w2 o vb qf)];exact q5
 have qj:∀o,(w2.alloc o).frozen? ⟨vb,5,none⟩=false:=fun o=>by rw[World.frozen?_of_block (w:=w2) (BY w2 o vb qf)];exact z5
 have qo:ps.length<=2001:=by have:=hal.length;have:=hI.len;omega
 rcases hc with⟨d,r,fl',p,hs,rfl,q9,qd⟩|⟨hs,p,rfl,r,tw,dp,fr,q9⟩
 ·have HS:=Ab hs;clear hs
  go_wp2_with (fail)
  go_region_law ((refine D1 _ (by rfl) _ _ _ (by rfl) N1 80 i0 _ 1 8 underlying106 qk hz0 qh hz2 rfl (by decide) sl ps.length ps (by rfl) ((q7.alloc _).drew) ⟨w2.heap.size,0,none⟩ 1 1 [.pointer p] (by rfl) (by rfl) (Dp (cs:=#[.pointer p]) (t:=80) (fr:=(0,0)) (heap_alloc_new w2 _)) (by simp[F1]) (by decide) (by unfold maxLen;omega) (by omega) (by simp;omega) (w2.heap.size+1) (by simp) ?_;intro g cap w3 q6 q0 qe hlt;have zz:w3.frozen? ⟨vb,5,none⟩=false:=(q0.frozen_far ⟨vb,5,none⟩ (by simp;omega) nv).trans (qj _);have yy:w3.cell? ⟨vb,5,none⟩=some sl:=(q0.cell_far ⟨vb,5,none⟩ (by simp;omega) nv).trans (qi _);have xx:w3.cell? ⟨p2,0,none⟩=some (.pointer (some ⟨vb,0,none⟩)):=(q0.cell_far ⟨p2,0,none⟩ (by simp;omega) n2).trans (qg _)))
  all_goals (
   have hf:=Ps B hI hk2 q9 hvb q4 hal q6 (D2 q0.os q0.tape q0.output q0.size q0.block) qe
   have qb:=E4 _ _ _ _ _ _ _ (Aa HS)
   go_wp2_with (fail)
   go_ret;refine Bs ⟨r,(s.1++[d],fl'),?_,rfl,hf.2.2.2 d fl' rfl qd qb⟩
   unfold Dr;have:=Aa HS;rw[show (s.2.1,s.2.2.1,s.2.2.2)=s.2 from rfl] at this;rw[this])
 ·have HS:=Ab hs;clear hs
  go_wp2_with (fail)
  go_region_law ((refine D1 _ (by rfl) _ _ _ (by rfl) N1 80 i0 _ 1 8 underlying106 qk hz0 qh hz2 rfl (by decide) sl ps.length ps (by rfl) ((q7.alloc _).drew) ⟨w2.heap.size,0,none⟩ 1 1 [.pointer p] (by rfl) (by rfl) (Dp (cs:=#[.pointer p]) (t:=80) (fr:=(0,0)) (heap_alloc_new w2 _)) (by simp[F1]) (by decide) (by unfold maxLen;omega) (by omega) (by simp;omega) (w2.heap.size+1) (by simp) ?_;intro g cap w3 q6 q0 qe hlt;have zz:w3.frozen? ⟨vb,5,none⟩=false:=(q0.frozen_far ⟨vb,5,none⟩ (by simp;omega) nv).trans (qj _);have yy:w3.cell? ⟨vb,5,none⟩=some sl:=(q0.cell_far ⟨vb,5,none⟩ (by simp;omega) nv).trans (qi _);have xx:w3.cell? ⟨p2,0,none⟩=some (.pointer (some ⟨vb,0,none⟩)):=(q0.cell_far ⟨p2,0,none⟩ (by simp;omega) n2).trans (qg _)))
  all_goals (
   have hf:=Ps B hI hk2 q9 hvb q4 hal q6 (D2 q0.os q0.tape q0.output q0.size q0.block) qe
   go_wp2_with (fail)
   go_ret;refine AT ⟨?_,rfl,hf.1,⟨r,tw,dp,fr,hf.2.1⟩,hf.2.2.1⟩
   unfold Dr;have:=Aa HS;rw[show (s.2.1,s.2.2.1,s.2.2.2)=s.2 from rfl] at this;rw[this])
def X6(f:Nat)(lv:Int)(l:By)(fl:Fl)(e:Ending)(w w':A2)(R:Nat)(t:ByteArray):Prop:=
 (∃es r fl' p,Bq 91 93 (Dr (ZD f (lv+1))) l ([],fl)=some (r,(es,fl'))/\e=.returned (.tuple #[.pointer p,.bool true])/\RD w' R t r fl'.1 fl'.2.1 fl'.2.2/\Tr (f+1) w.heap.size w' (.pointer p) (Ap es)) \/
  (Bq 91 93 (Dr (ZD f (lv+1))) l ([],fl)=none /\ ∃p,e=.returned (.tuple #[.pointer p,.bool false]) /\ ∃r tw dp fr,RD w' R t r tw dp fr)
theorem Jc(f:Nat)(lv:Int)(l:By)(s:List To×Fl)(l':By)(s':List To×Fl)(h:Dr (ZD f lv) l s=some (l',s')):l'.length<l.length:=by
 unfold Dr at h;split at h
 ·cases h
 ·rename_i v r fl hv;have:=E4 _ _ _ _ _ _ _ hv
  grind
theorem X2(B:DF w0 R p0 p1 p2 vb N1)(hV:Ez f)(hlv:0<=lv)(hb:lv+f<=4999):
  ItemOk 219 #[.pointer (some ⟨p0,0,none⟩),.pointer (some ⟨p1,0,none⟩),.pointer (some ⟨p2,0,none⟩)] R t f (Dr (ZD f (lv+1))) (Jm f R t lv w0 p0 p1 p2 vb N1) (RdJ R t w0 p2 vb) where
 rd:=fun w l s h=>⟨_,_,_,h.rd⟩
 move:=fun w w' l l' s tw dp fr h h1 h2 hk hl=>by
  obtain⟨_,_,e1,e2,e3⟩:=h.rd.uniq h1;have bR:=B.r;have hsz:=h.sz;have a0:=B.a0;have a1:=B.a1;have a2:=B.a2;have av:=B.av;refine⟨by grind,h.kept.trans hk,h.laid.kept hk B.ng,(hk.block p0 (by omega) (by omega)).trans h.b0,(hk.block p1 (by omega) (by omega)).trans h.b1,(hk.block p2 (by omega) (by omega)).trans h.b2,by have:=hk.size;omega,by have:=h.len;omega,?_⟩;obtain⟨sl,ps,hvb,q0,hal⟩:=h.el;refine⟨sl,ps,hvb.kept (hk.block vb hvb.lt (by omega)),AX q0 (fun g hg=>hk.block g (Aw q0 g hg).1 (by have:=(Aw q0 g hg).2;omega)),hal.move fun k h3 h5 h4=>⟨hk.block k h4 (by omega),h5⟩⟩
 out:=fun w l s h=>⟨h.kept,⟨_,_,_,_,h.rd⟩,h.b2⟩
 len:=fun l s l' s' h=>Jc _ _ _ _ _ _ h
 call:=fun w l s h hl=>U3 B hV hlv w l s h hl hb
theorem Hl{B B' e n:Nat}{xs:List A5}(h:w.ownsRow B e 1 v n xs)(hB:B'<=B):w.ownsRow B' e 1 v n xs:=
 ⟨h.1,h.2.imp id fun ⟨g,cap,cur,a,b,c⟩=>⟨g,cap,cur,a,Nat.le_trans hB b,c⟩⟩
theorem Y7(w:A2)(o0 o1 o2 o3:Obj):((((w.alloc o0).alloc o1).alloc o2).alloc o3).heap[w.heap.size]? = some o0/\((((w.alloc o0).alloc o1).alloc o2).alloc o3).heap[w.heap.size+1]? = some o1 /\
  ((((w.alloc o0).alloc o1).alloc o2).alloc o3).heap[w.heap.size+1+1]? = some o2/\((((w.alloc o0).alloc o1).alloc o2).alloc o3).heap[w.heap.size+1+1+1]? = some o3:=by
 have h (k:Nat):((((w.alloc o0).alloc o1).alloc o2).alloc o3).heap[k]? = ((((w.heap.push o0).push o1).push o2).push o3)[k]?:=rfl
 grind
theorem WZ(B:DF w0 R p0 p1 p2 vb N1){s:List To×Fl}(h:Jm f R t lv w0 p0 p1 p2 vb N1 w l s):
  Tr (f+1) w0.heap.size w (.pointer (some ⟨vb,0,none⟩)) (Ap s.1):=by
 have av:=B.av;obtain⟨sl,ps,hvb,q0,hal⟩:=h.el;exact hal.arr av.1 av.2 hvb (Hl q0 (Nat.zero_le _)) fun g hg=>(Aw q0 g hg).2
theorem S7(hV:Ez f)(h:RD w R t l tw dp fr)(hT:Af w)(hR:NG<=R)(hl:l.length<=f)(hlv:0<=lv)(hb:lv+f<=4999):
  G0 A6 181 #[.pointer (some ⟨R,0,none⟩),.int .i64 lv] w fun e w'=>Ae R w w'/\X6 f lv l (tw,dp,fr) e w w' R t:=by
 have q5:=h.lt;have q4:l.length<=2000:=by obtain⟨p,ha,_⟩:=h;have:=ha.len;have:=ha.small;omega
 have B:DF w R w.heap.size (w.heap.size+1) (w.heap.size+1+1+1) (w.heap.size+1+1) (w.heap.size+4):=⟨q5,hR,by omega,by omega,by omega,by omega,by omega,by omega,by omega⟩
 have hI:Hid (∀W,W=((((w.alloc (.cells #[.pointer (some ⟨R,0,none⟩)] 153)).alloc (.cells #[.int .i64 lv] 3)).alloc (.cells #[.int .i64 5,.bool false,.string ⟨#[]⟩,.int .i64 0,.string ⟨#[]⟩,.slice none 0 0,.map none] 111)).alloc (.cells #[.pointer (some ⟨w.heap.size+1+1,0,none⟩)] 80)) ->
   Jm f R t lv w w.heap.size (w.heap.size+1) (w.heap.size+1+1+1) (w.heap.size+1+1) (w.heap.size+4) W l ([],(tw,dp,fr))):=by
  rintro W rfl;have hf:=Y7 w (.cells #[.pointer (some ⟨R,0,none⟩)] 153) (.cells #[.int .i64 lv] 3) (.cells #[.int .i64 5,.bool false,.string ⟨#[]⟩,.int .i64 0,.string ⟨#[]⟩,.slice none 0 0,.map none] 111) (.cells #[.pointer (some ⟨w.heap.size+1+1,0,none⟩)] 80);have hk:=((((Ae.refl R w).alloc (.cells #[.pointer (some ⟨R,0,none⟩)] 153)).alloc (.cells #[.int .i64 lv] 3)).alloc (.cells #[.int .i64 5,.bool false,.string ⟨#[]⟩,.int .i64 0,.string ⟨#[]⟩,.slice none 0 0,.map none] 111)).alloc (.cells #[.pointer (some ⟨w.heap.size+1+1,0,none⟩)] 80);refine⟨(((h.alloc _).alloc _).alloc _).alloc _,hk,hT.kept hk hR,hf.1,hf.2.1,hf.2.2.2,by simp,by simp;omega,.slice none 0 0,[],hf.2.2.1,World.ownsRow_nil _ _ _ _,TrL.nil _ _ _ _⟩
 have K:=X2 (t:=t) B hV hlv hb;clear hT
 go_enter func181,ntmps181
 go_wp2_with (fail);refine (Uf _ _ _ 91 93 91 93 rfl rfl R t f _ _ _ K _ l ([],(tw,dp,fr)) (Aa hI _ rfl) hl).mono ?_
 rintro e w5 hc;rcases hc with⟨l',s',hs,rfl,q0⟩|⟨hs,rfl,hJ⟩
 ·have HS:=Ab hs;have hb2:=q0.b2;have q2:w5.cell? ⟨w.heap.size+1+1+1,0,none⟩=some (.pointer (some ⟨w.heap.size+1+1,0,none⟩)):=by simp[CD,hb2]
  have HI:=Ab q0;clear hs q0 hb2 hI
  go_wp2_with (fail)
  go_ret2
  refine⟨(Aa HI).kept,Bs ⟨s'.1,l',s'.2,_,Aa HS,rfl,(Aa HI).rd,WZ B (Aa HI)⟩⟩
 ·have HS:=Ab hs;have hb2:=hJ.2.2;have q2:w5.cell? ⟨w.heap.size+1+1+1,0,none⟩=some (.pointer (some ⟨w.heap.size+1+1,0,none⟩)):=by simp[CD,hb2]
  have HJ:=Ab hJ;clear hs hJ hb2 hI
  go_wp2_with (fail)
  go_ret2
  exact⟨(Aa HJ).1,AT ⟨Aa HS,_,rfl,(Aa HJ).2.1⟩⟩
end Go.Proofs.YtdpomdelmdofmaaGreatDoor
