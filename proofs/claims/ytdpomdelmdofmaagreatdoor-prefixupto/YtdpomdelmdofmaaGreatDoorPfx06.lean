import Derived.Test.YtdpomdelmdofmaaGreatDoorPfx05
import Derived.Laws.RangeAny
import Derived.BigRegion
import GoSem.ClaimMapViews
import Derived.Maps.Views
import Derived.Maps.OwnSet
open Go.Lib renaming trimLeftB->AI,trimRightB->A1,hasPrefix->C1
open Go.Proofs.Tryz renaming prog->AS
open Go renaming Value->AT,World->A5,DataW->A6,Calls->Dp
open Array renaming getElem?_eq_some_iff->A2
open Or renaming inr->A3,inl->CD
open List renaming dropWhile_sublist->A4
open Go.DataW renaming insert->Bs,put->C2
open Go.World renaming cell?->BY
open Go.Maps renaming has->CH
open Nat renaming le_refl->Dt
open Go.Instr renaming next->DD
open Go.RowKit.Below renaming refl->D0
set_option maxHeartbeats 8000000
namespace Go.Proofs.YtdpomdelmdofmaaGreatDoor
open Go.Proofs.Tryz Go.RowKit
variable{w w':A5}{R n:Nat}{t:ByteArray}{l r s:By}{tw:Bool}{dp fr:Int}{v:AT}
def Sj(o:Option (Int×By))(e:Ending)(w':A5)(R:Nat)(t:ByteArray)(tw:Bool)(dp fr:Int):Prop:=
 (∃n l',o=some (n,l')/\e=.returned (.tuple #[.int .i64 n,.bool true])/\RD w' R t l' tw dp fr) \/
  (o=none /\ ∃n l',e=.returned (.tuple #[.int .i64 n,.bool false])/\RD w' R t l' tw dp fr)
theorem Hx(w:A5)(s:ByteArray)(k:Nat):(w.iter s k).iterPos w.heap.size=k:=by
 simp[World.iterPos,World.iter_heap]
theorem UA(h:RD w R t l tw dp fr)(k0:Zn l 101=false)(k1:Zn l 69=false):
  Dp AS 224 #[.pointer (some ⟨R,0,none⟩)] w fun e w'=>Ae R w w'/\Sj (BJ l) e w' R t tw dp fr:=by
 have hE:Hid (BJ l=some (0,l)):=by unfold Hid BJ;simp[k0,k1]
 have K0:=Ab k0;have K1:=Ab k1;clear k0 k1
 go_enter func224,ntmps224
 go_wp2_with (fail);refine (AP 101 _ rfl h (Aa K0)).mono ?_
 rintro e w1 ⟨rfl,q5,q4⟩
 go_wp2_with (fail);refine (AP 69 _ rfl q5 (Aa K1)).mono ?_
 rintro e w2 ⟨rfl,q0,hk2⟩
 go_wp2_with (fail)
 go_ret2
 exact⟨q4.trans hk2,CD ⟨0,l,Aa hE,rfl,q0⟩⟩
theorem BV(h:RD w R t l tw dp fr):
  Dp AS 224 #[.pointer (some ⟨R,0,none⟩)] w fun e w'=>Ae R w w'/\Sj (BJ l) e w' R t tw dp fr:=by
 have hf:(Zn l 101=true\/Zn l 101=false/\Zn l 69=true)\/Zn l 101=false/\Zn l 69=false:=by grind
 rcases hf with hf|⟨k0,k1⟩
 rotate_left
 ·exact UA h k0 k1
 have hs:(Zn l.tail 45=true/\Hid (BJ l=if dg l.tail.tail=[] then none else some (- CW (dg l.tail.tail) 0,ZH l.tail.tail))) \/
   (Zn l.tail 45=false/\Zn l.tail 43=true/\Hid (BJ l=if dg l.tail.tail=[] then none else some (CW (dg l.tail.tail) 0,ZH l.tail.tail))) \/
   (Zn l.tail 45=false/\Zn l.tail 43=false/\Hid (BJ l=if dg l.tail=[] then none else some (CW (dg l.tail) 0,ZH l.tail))):=by
  unfold Hid BJ;grind
 have HS:=Ab hs;have HF:=Ab hf;clear hs hf
 go_enter func224,ntmps224
 go_wp2_with (fail);rcases Aa HF with k|⟨k0,k⟩
 refine (Ar 101 _ rfl h k).mono ?_;rintro e w1 ⟨rfl,qb,q7⟩
 rotate_left
 refine (AP 101 _ rfl h k0).mono ?_;rintro e w0 ⟨rfl,qh,qj⟩;clear k0;have HK:=Ab k;clear k
 go_wp2_with (fail);refine (Ar 69 _ rfl qh (Aa HK)).mono ?_
 rintro e w1 ⟨rfl,qb,q7⟩;replace q7:=qj.trans q7;have k:=Aa HK;clear qj qh HK
 rotate_left
 all_goals (
  clear k HF
  go_wp2_with (fail);rcases Aa HS with⟨k2,hE⟩|⟨k2,k3,hE⟩|⟨k2,k3,hE⟩
  refine (Ar 45 _ rfl qb k2).mono ?_;rintro e w3 ⟨rfl,q6,q4⟩;obtain⟨L,hL⟩:∃L,L=l.tail.tail:=⟨_,rfl⟩
  rotate_left
  refine (AP 45 _ rfl qb k2).mono ?_;rintro e w2 ⟨rfl,qd,hk2⟩;have K3:=Ab k3;clear k3
  go_wp2_with (fail);refine (Ar 43 _ rfl qd (Aa K3)).mono ?_
  rintro e w3 ⟨rfl,q6,q4⟩;replace q4:=hk2.trans q4;obtain⟨L,hL⟩:∃L,L=l.tail.tail:=⟨_,rfl⟩
  rotate_left
  refine (AP 45 _ rfl qb k2).mono ?_;rintro e w2 ⟨rfl,qd,hk2⟩;have K3:=Ab k3;clear k3
  go_wp2_with (fail);refine (AP 43 _ rfl qd (Aa K3)).mono ?_
  rintro e w3 ⟨rfl,q6,q4⟩;replace q4:=hk2.trans q4;obtain⟨L,hL⟩:∃L,L=l.tail:=⟨_,rfl⟩
  rotate_left)
 all_goals (
  rw[<- hL] at q6 hE;replace q4:=q7.trans q4;clear hL k2 qb q7 HS
  go_wp2_with (fail);refine (AK q6).mono ?_
  rintro e w4 ⟨rfl,qm,qg⟩;have hkk:=q4.trans qg;have qe:=Ab (SK L);obtain⟨b,hem⟩:∃b,(dg L).isEmpty=b:=⟨_,rfl⟩
  go_wp2_with (fail);generalize qo:dg L=ds at *
  clear h q6 q4 qg qo
  go_loopw [6] (fun n wr=>∃ (k:Nat) (m:Int),k<=ds.length/\n=.int .i64 m/\0<=m/\m<=1000000/\wr=w4.iter ⟨ds.toArray⟩ k/\CW ds 0=CW (ds.drop k) m) (fun _ wr=>ds.length-wr.iterPos w4.heap.size)
  case atStart=>exact⟨0,0,by omega,rfl,by omega,by omega,rfl,rfl⟩
  obtain⟨k,m,hk,rfl,qp,qq,rfl,he⟩:=hrel;have HE:=Ab he;clear he;by_cases hlt:k<ds.length
  ·have q9:k<(⟨ds.toArray⟩:ByteArray).size:=by rw[AU];exact hlt
   have hc:=Aa qe ds[k] (List.getElem_mem hlt);have q0:((⟨ds.toArray⟩:ByteArray)[k]'q9)=ds[k]:=by simp[ByteArray.getElem_eq_getElem_data]
   have q8:∀ty,(DD (.pointer (some ⟨w4.heap.size,0,none⟩)) true ty).run AS (w4.iter ⟨ds.toArray⟩ k)=.ok (.tuple #[.bool true,.int .i64 k,.int .i32 ds[k].toNat]) (w4.iter ⟨ds.toArray⟩ (k+1)):=fun ty=>by
    have:=run_next_ascii (P:=AS) w4 ⟨ds.toArray⟩ k ty q9 (by rw[q0];omega);rw[q0] at this;exact this
   have q5:Hid (CW (ds.drop k) m=CW (ds.drop (k+1)) (min (10*m+((ds[k].toNat:Int)-48)) 1000000)):=by
    unfold Hid;rw[List.drop_eq_getElem_cons hlt];rfl
   generalize qi:ds[k].toNat=c at *;have HC:=Ab qi;clear qi q0
   go_wp2_with (fail)
   go_roundw
   case rel=>exact⟨k+1,_,by omega,rfl,by omega,by omega,rfl,(Aa HE).trans (Aa q5)⟩
   case measure=>rw[Hx,Hx];omega
  ·have q8:∀ty,(DD (.pointer (some ⟨w4.heap.size,0,none⟩)) true ty).run AS (w4.iter ⟨ds.toArray⟩ k)=.ok (.tuple #[.bool false]) (w4.iter ⟨ds.toArray⟩ k):=fun ty=>
    run_next_end (P:=AS) w4 ⟨ds.toArray⟩ k ty (by rw[AU];exact hlt)
   go_wp2_with (fail);have qn:Ae R w (w4.iter ⟨ds.toArray⟩ k):=hkk.alloc _
   have qf:RD (w4.iter ⟨ds.toArray⟩ k) R t (ZH L) tw dp fr:=qm.alloc _;have qk:CW ds 0=m:=by rw[Aa HE,List.drop_eq_nil_of_le (by omega)];rfl
   go_ret2
   refine⟨qn,?_⟩;cases b with
   | false=>exact CD ⟨_,_,by rw[Aa hE,if_neg (by intro h;rw[h] at hem;cases hem),qk],rfl,qf⟩
   | true=>exact A3 ⟨by rw[Aa hE,if_pos (by simpa using hem)],_,_,rfl,qf⟩)
def Az(n:Nm):AT:=.agg #[.bool n.1,.string ⟨n.2.1.toArray⟩,.int .i64 n.2.2]
theorem Tc(s:ByteArray)(w:A5)(q0:s.size<=281474976710656):
  Dp AS 265 #[.string s] w fun e w'=>e=.returned (.string s)/\Below w.heap.size w w':=by
 go_enter func265,ntmps265
 go_wp2_with (fail);refine (Tryz.stringslite_Clone s _ q0).mono ?_
 rintro e w1 ⟨rfl,hb⟩
 go_wp2_with (fail)
 go_ret;exact⟨rfl,hb⟩
theorem G8(l:By)(c:UInt8):(AI l c).length<=l.length:=by
 unfold AI;exact (A4 _).length_le
theorem G7(l:By)(c:UInt8):(A1 l c).length<=l.length:=by
 unfold A1;rw[List.length_reverse];exact Nat.le_trans (A4 _).length_le (by simp)
theorem Do(ng:Bool)(ds:By)(ex:Int)(w:A5)(h0:-10000000<=ex)(h1:ex<=10000000)(hl:ds.length<=4000):
  Dp AS 225 #[.bool ng,.string ⟨ds.toArray⟩,.int .i64 ex] w fun e w'=>e=.returned (Az (Cv ng ds ex))/\Below w.heap.size w w':=by
 have hq:Hid (Cv ng ds ex=if A1 (AI ds 48) 48=[] then (false,[],0) else (ng,A1 (AI ds 48) 48,ex+(AI ds 48).length-(A1 (AI ds 48) 48).length)):=rfl;have l1:=G8 ds 48;have l2:=G7 (AI ds 48) 48;have cL:∀W:A5,Dp AS 263 #[.string ⟨ds.toArray⟩,.string ⟨#[48]⟩] W fun e w'=>e=.returned (.string ⟨(AI ds 48).toArray⟩)/\w'=W:=fun W=>Tryz.strings_TrimLeft_one ⟨ds.toArray⟩ 48 (by decide) W;have cR:∀W:A5,Dp AS 264 #[.string ⟨(AI ds 48).toArray⟩,.string ⟨#[48]⟩] W fun e w'=>e=.returned (.string ⟨(A1 (AI ds 48) 48).toArray⟩)/\w'=W:=fun W=>Tryz.strings_TrimRight_one ⟨(AI ds 48).toArray⟩ 48 (by decide) W (by rw[AU];omega);generalize A1 (AI ds 48) 48=wl at *;generalize AI ds 48=dl at *;have CL:=Ab cL;have CR:=Ab cR;clear cL cR;by_cases hw:wl=[]
 ·have hr:Hid (Cv ng ds ex=(false,[],0)):=by rw[Hid,Aa hq,if_pos hw]
  clear hq;subst hw
  go_enter func225,ntmps225
  go_wp2_with (fail);refine (Aa CL _).mono ?_
  rintro e w' ⟨rfl,rfl⟩
  go_wp2_with (fail);refine (Aa CR _).mono ?_
  rintro e w' ⟨rfl,rfl⟩
  go_wp2_with (fail);rw[Aa hr]
  refine bodyPost_ret (v:=Az (false,[],0)) (by simp[results,results225,go_sem,Az]) rfl ⟨rfl,?_⟩;exact (D0 _ _).alloc (Dt _) _
 ·have he:=Nq hw;have hr:Hid (Cv ng ds ex=(ng,wl,ex+dl.length-wl.length)):=by rw[Hid,Aa hq,if_neg hw]
  clear hq hw
  go_enter func225,ntmps225
  go_wp2_with (fail);refine (Aa CL _).mono ?_
  rintro e w' ⟨rfl,rfl⟩
  go_wp2_with (fail);refine (Aa CR _).mono ?_
  rintro e w' ⟨rfl,rfl⟩
  go_wp2_with (fail);refine (Tc _ _ (by rw[AU];omega)).mono ?_
  rintro e w2 ⟨rfl,hb⟩;have g0:w2.cell? ⟨w.heap.size,0,none⟩=some (.bool false):=(hb.cell (p:=⟨w.heap.size,0,none⟩) (by simp)).trans (by simp);have g1:w2.cell? ⟨w.heap.size,1,none⟩=some (.string ⟨#[]⟩):=(hb.cell (p:=⟨w.heap.size,1,none⟩) (by simp)).trans (by simp);have g2:w2.cell? ⟨w.heap.size,2,none⟩=some (.int .i64 0):=(hb.cell (p:=⟨w.heap.size,2,none⟩) (by simp)).trans (by simp);have hf:∀j,w2.frozen? ⟨w.heap.size,j,none⟩=(w.alloc (.cells #[.bool false,.string ⟨#[]⟩,.int .i64 0] 108)).frozen? ⟨w.heap.size,j,none⟩:=fun j=>hb.frozen (p:=⟨w.heap.size,j,none⟩) (by simp)
  go_wp2_with (fail);rw[Aa hr]
  refine bodyPost_ret (v:=Az (ng,wl,ex+dl.length-wl.length)) (by simp[results,results225,go_sem,Az,g0,g1,g2]) rfl ⟨rfl,?_⟩;exact ((((D0 w.heap.size w).alloc (Dt _) _).trans (hb.mono (by simp))).setCell (by simp) _ |>.setCell (by simp) _).setCell (by simp) _
theorem Gl{n:Int}(h:BJ l=some (n,r)):-1000000<=n/\n<=1000000:=by
 unfold BJ at h;have b:=fun l'=>UB (dg l') (SK l') 0 (by omega) (by omega)
 grind
def BU(o:Option (Nm×By))(e:Ending)(w':A5)(R:Nat)(t:ByteArray)(tw:Bool)(dp fr:Int):Prop:=
 (∃n l',o=some (n,l')/\e=.returned (.tuple #[Az n,.bool true])/\RD w' R t l' tw dp (max (max fr n.2.2) (-n.2.2))) \/
  (o=none/\e=.returned (.tuple #[Az (false,[],0),.bool false]) /\ ∃l',RD w' R t l' tw dp fr)
theorem DX{d:UInt8}{ds:By}(h:dg l=d::ds)(c:UInt8):Zn l c=(d==c):=by
 cases l with
 | nil=>simp[dg] at h
 | cons a r=>
  unfold dg at h;split at h
  ·injection h with h1 h2;subst h1;rfl
  ·cases h
theorem B1(d:UInt8)(ds:By)(h:0<(⟨(d::ds).toArray⟩:ByteArray).size):(((⟨(d::ds).toArray⟩:ByteArray)[0]'h).toNat:Int)=(d.toNat:Int):=by
 rfl
theorem Av(d:UInt8)(ds:By):0<(⟨(d::ds).toArray⟩:ByteArray).size:=by rw[AU];simp
theorem DO{f:By}(h:BP l=some (f,r)):f.length+r.length<=l.length:=by
 unfold BP at h;have b:=B9 l.tail
 grind
theorem Io{q:Nat}(h:RP w R t q tw dp fr)(o:Obj)(v v':Int)(x y z:AT)(b:Nat)(hb:b≠R)(hv:v=v'):
  RP ((((((w.alloc o).setCell ⟨R,4,none⟩ (.int .i64 v)).setCell ⟨b,0,none⟩ x).setCell ⟨b,1,none⟩ y).setCell ⟨b,2,none⟩ z).drew) R t q tw dp v':=by
 subst hv;have h1:=(h.alloc o).set4 v;exact ((h1.kept ((((Ae.refl b _).setCell (p:=⟨b,0,none⟩) rfl x).setCell (p:=⟨b,1,none⟩) rfl y).setCell (p:=⟨b,2,none⟩) rfl z) (by omega))).drew
theorem Gc(ng:Bool)(ds:By)(e:Int):(Cv ng ds e).2.2=0\/(e<=(Cv ng ds e).2.2/\(Cv ng ds e).2.2<=e+ds.length):=by
 unfold Cv;have h1:=G8 ds 48;have h2:=G7 (AI ds 48) 48
 grind
def Bt(w:A5)(b:Nat):Prop:=w.heap[b]? = some (.cells #[.bool false,.string ⟨#[]⟩,.int .i64 0] 108 (0,0))
section
variable{w:A5}{b:Nat}
theorem Bt.c0(h:Bt w b):w.cell? ⟨b,0,none⟩=some (.bool false):=by simp[BY,show w.heap[b]? = _ from h]
theorem Bt.c1(h:Bt w b):w.cell? ⟨b,1,none⟩=some (.string ⟨#[]⟩):=by simp[BY,show w.heap[b]? = _ from h]
theorem Bt.c2(h:Bt w b):w.cell? ⟨b,2,none⟩=some (.int .i64 0):=by simp[BY,show w.heap[b]? = _ from h]
theorem Bt.fz(h:Bt w b)(o:Nat):w.frozen? ⟨b,o,none⟩=false:=by simp[World.frozen?,show w.heap[b]? = _ from h]
theorem Bt.kept{X:Nat}(h:Bt w b)(hk:Ae X w w')(hx:b≠X):Bt w' b:=(hk.block b (A2.1 h).1 hx).trans h
theorem Bt.new(w:A5):Bt (w.alloc (.cells #[.bool false,.string ⟨#[]⟩,.int .i64 0] 108)) w.heap.size:=by
 show (w.heap.push _)[w.heap.size]? = _;simp
end
abbrev To:=A6 Unit
def AO(k:Nat):To:=.lit (.int .i64 k)
def Bv(n:Nm):To:=.agg [.lit (.bool n.1),.lit (.string n.2.1),.lit (.int .i64 n.2.2)]
def Aq(s:By):To:=.lit (.string s)
def Ap(es:List To):To:=.slice es []
def Ay(es:List (Lit×To)):To:=.map es
abbrev Fl:=Bool×Int×Int
def aK:List By:=[[110,117,108,108],[116,114,117,101],[102,97,108,115,101]]
def CS(l:By):Nat->List By->Option (Nat×By)
 | _,[]=>none
 | k,x::r=>if C1 l x then some (k,l.drop x.length) else CS l (k+1) r
def Z7{σ:Type}(cl:UInt8)(ZI:By->σ->Option (By×σ)):Nat->By->σ->Option (By×σ)
 | 0,_,_=>none
 | n+1,l,s=>match ZI (Zu l) s with
  | none=>none
  | some (l1,s1)=>if Zn (Zu l1) cl then some ((Zu l1).tail,s1) else if Zn (Zu l1) 44 then Z7 cl ZI n (Zu l1).tail s1 else none
def Bq{σ:Type}(op cl:UInt8)(ZI:By->σ->Option (By×σ))(l:By)(s:σ):Option (By×σ):=
 if Zn l op then (if Zn (Zu l.tail) cl then some ((Zu l.tail).tail,s) else Z7 cl ZI ((Zu l.tail).length+1) (Zu l.tail) s) else none
def Dr(rd:By->Fl->Option (To×By×Fl))(l:By)(s:List To×Fl):Option (By×(List To×Fl)):=
 match rd l s.2 with
 | none=>none
 | some (v,r,fl)=>some (r,(s.1++[v],fl))
def CM(rd:By->Fl->Option (To×By×Fl))(l:By)(s:To×Fl):Option (By×(To×Fl)):=
 match aE l with
 | none=>none
 | some (k,l1)=>if Zn (Zu l1) 58 then (match rd (Zu (Zu l1).tail) s.2 with
  | none=>none
  | some (v,r,fl)=>some (r,(C2 s.1 (.string k) v,(fl.1 || CH s.1 (.string k),fl.2)))) else none
def ZD:Nat->Int->By->Fl->Option (To×By×Fl)
 | 0,_,_,_=>none
 | f+1,Zg,l,fl=>
  if Zt l=123 then (match Bq 123 125 (CM (ZD f (Zg+1))) l (Ay [],(fl.1,(max fl.2.1 Zg,fl.2.2))) with
   | none=>none
   | some (r,(v,fl'))=>some (v,r,fl'))
  else if Zt l=91 then (match Bq 91 93 (Dr (ZD f (Zg+1))) l ([],(fl.1,(max fl.2.1 Zg,fl.2.2))) with
   | none=>none
   | some (r,(es,fl'))=>some (Ap es,r,fl'))
  else if Zt l=34 then (match aE l with
   | none=>none
   | some (s,r)=>some (Aq s,r,(fl.1,(max fl.2.1 Zg,fl.2.2))))
  else if Zt l=45\/(48<=Zt l/\Zt l<=57) then (match Zw l with
   | none=>none
   | some (n,r)=>some (Bv n,r,(fl.1,(max fl.2.1 Zg,max (max fl.2.2 n.2.2) (-n.2.2)))))
  else match CS l 0 aK with
   | none=>none
   | some (k,r)=>some (AO k,r,(fl.1,(max fl.2.1 Zg,fl.2.2)))
theorem Bb(l:By):(Zu l).length<=l.length:=by
 induction l with
 | nil=>simp[Zu]
 | cons c r ih=>
  grind [Zu]
theorem Py(l:By)(ws:List By)(hw:∀x∈ws,x≠[]):∀ (k n:Nat) (r:By),CS l k ws=some (n,r)->r.length<l.length:=by
 induction ws with
 | nil=>intro k n r h;cases h
 | cons x ws ih=>
  intro k n r h;unfold CS at h;split at h
  ·rename_i hp;unfold C1 at hp;have h3:=(List.isPrefixOf_iff_prefix.1 hp).length_le;have h4:0<x.length:=by grind
   grind
  grind
theorem UT(f:Nat):∀ (l s r:By),Db f l=some (s,r)->r.length<=l.length:=by
 induction f with
 | zero=>grind [Db]
 | succ f ih=>
  intro l s r h;unfold Db at h;split at h
  ·grind
  ·split at h
   ·cases h
   ·rename_i c r1 hc;have:=KB hc
    grind
theorem Ih(h:aE l=some (s,r)):r.length<l.length:=by
 unfold aE at h;split at h
 ·rename_i k;have:=BH k;have:=UT _ _ _ _ h;omega
 ·cases h
theorem Ws{σ:Type}(cl:UInt8)(ZI:By->σ->Option (By×σ))(hi:∀l s l' s',ZI l s=some (l',s')->l'.length<l.length)(n:Nat):∀ (l:By) (s:σ) (r:By) (s':σ),Z7 cl ZI n l s=some (r,s')->r.length<l.length:=by
 induction n with
 | zero=>grind [Z7]
 | succ n ih=>
  intro l s r s' h;unfold Z7 at h;split at h
  ·cases h
  ·rename_i l1 s1 h1;have a:=hi _ _ _ _ h1;have b:=Bb l;have c:=Bb l1
   grind
theorem JK{σ:Type}{op cl:UInt8}{ZI:By->σ->Option (By×σ)}(hi:∀l s l' s',ZI l s=some (l',s')->l'.length<l.length){s:σ}{s':σ}(h:Bq op cl ZI l s=some (r,s')):r.length<l.length:=by
 unfold Bq at h;split at h
 ·rename_i k;have:=BH k;have b:=Bb l.tail;split at h
  ·grind
  ·have:=Ws cl ZI hi _ _ _ _ _ h;omega
 ·cases h
theorem dE{n:Nm}(h:Zw l=some (n,r)):r.length<l.length:=by
 have hf:∀ {l:By} {n r},BJ l=some (n,r)->r.length<=l.length:=by
  intro l n r h;unfold BJ at h;have a:=B9 l.tail;have b:=B9 l.tail.tail
  grind
 have hb:∀ {b:Bool} {l:By} {n r},BN b l=some (n,r)->r.length<l.length:=by
  intro b l n r h;unfold BN at h;have a:=B9 l;split at h
  ·cases h
  ·rename_i q4;have q0:0<(dg l).length:=by
    grind
   split at h
   ·cases h
   ·rename_i f r1 h1;have:=DO h1
    grind
 grind [BJ,BN,Zw]
theorem E4(f:Nat):∀ (Zg:Int) (l:By) (fl:Fl) (v:To) (r:By) (fl':Fl),ZD f Zg l fl=some (v,r,fl')->r.length<l.length:=by
 induction f with
 | zero=>grind [ZD,Dr,CM]
 | succ f ih=>
  intro Zg l fl v r fl' h;unfold ZD at h;have he:∀l s l' s',Dr (ZD f (Zg+1)) l s=some (l',s')->l'.length<l.length:=by
   grind [ZD,Dr,CM]
  have hm:∀l s l' s',CM (ZD f (Zg+1)) l s=some (l',s')->l'.length<l.length:=by
   intro l s l' s' h;unfold CM at h;split at h
   ·cases h
   ·rename_i k l1 hq;have a:=Ih hq;have b:=Bb l1;split at h
    ·have c:=Bb (Zu l1).tail
     grind
    ·cases h
  split at h
  ·split at h
   ·cases h
   ·rename_i h1;have:=JK hm h1
    grind
  ·split at h
   ·split at h
    ·cases h
    ·rename_i h1;have:=JK he h1
     grind
   ·split at h
    ·split at h
     ·cases h
     ·rename_i h1;have:=Ih h1
      grind
    ·split at h
     ·split at h
      ·cases h
      ·rename_i h1;have:=dE h1
       grind
     ·split at h
      ·cases h
      ·rename_i h1;have:=Py _ _ (by decide) _ _ _ h1
       grind
def RV(v:AT):Option (A6 AT×List MemPlace):=some (.held v,[])
def VB(w:A5)(b:Nat)(k:Int)(n:Nm)(s:By)(sl mp:AT):Prop:=
 w.heap[b]? = some (.cells #[.int .i64 k,.bool n.1,.string ⟨n.2.1.toArray⟩,.int .i64 n.2.2,.string ⟨s.toArray⟩,sl,mp] 111 (0,0))
abbrev n0:Nm:=(false,[],0)
def Al{α β:Type}(P:α->β->Prop):List α->List β->Prop
 | [],[]=>True
 | a::r,b::s=>P a b/\Al P r s
 | _,_=>False
def Pt(P:AT->To->Prop):List (Lit×A6 AT)->List (Lit×To)->Prop
 | [],[]=>True
 | a::r,b::s=>(a.1=b.1 /\ ∃x,a.2=.held x/\P x b.2)/\Pt P r s
 | _,_=>False
def Rep:Nat->(Nat->Prop)->A5->AT->To->Prop
 | 0,_,_,_,_=>False
 | f+1,F,w,v,d=>∃b,v=.pointer (some ⟨b,0,none⟩)/\F b /\
  ((∃k:Nat,k<3/\d=AO k/\VB w b k n0 [] (.slice none 0 0) (.map none)) \/
   (∃n,d=Bv n/\VB w b 3 n [] (.slice none 0 0) (.map none) /\ -100000000<=n.2.2/\n.2.2<=100000000) \/
   (∃s,d=Aq s/\VB w b 4 n0 s (.slice none 0 0) (.map none)) \/
   (∃es sl ps,d=Ap es/\VB w b 5 n0 [] sl (.map none)/\w.ownsRow 0 80 1 sl ps.length ps/\(∀g,sl.ownBlock=some g->F g)/\Al (Rep f F w) ps es) \/
   (∃es m n D,d=Ay es/\VB w b 6 n0 [] (.slice none 0 0) (.map (some m))/\F m/\w.ownsMap AS 9 RV m n (.map D)/\Pt (Rep f F w) D es))
theorem Al.mono{α β:Type}{P Q:α->β->Prop}(h:∀a b,P a b->Q a b):∀ {l:List α} {m:List β},Al P l m->Al Q l m
 | [],[],_=>trivial
 | _::_,_::_,⟨a,b⟩=>⟨h _ _ a,Al.mono h b⟩
theorem Al.snoc{α β:Type}{P:α->β->Prop}{a:α}{b:β}(h:P a b):∀ {l:List α} {m:List β},Al P l m->Al P (l++[a]) (m++[b])
 | [],[],_=>⟨h,trivial⟩
 | _::_,_::_,⟨c,d⟩=>⟨c,Al.snoc h d⟩
theorem Al.length{α β:Type}{P:α->β->Prop}:∀ {l:List α} {m:List β},Al P l m->l.length=m.length
 | [],[],_=>rfl
 | _::_,_::_,⟨_,d⟩=>congrArg (· + 1) (Al.length d)
theorem Al.get{α β:Type}{P:α->β->Prop}:∀ {l:List α} {m:List β},Al P l m -> ∀ (i:Nat) (hi:i<l.length) (hj:i<m.length),P l[i] m[i]
 | _::_,_::_,⟨c,_⟩,0,_,_=>c
 | _::_,_::_,⟨_,d⟩,i+1,hi,hj=>Al.get d i (by grind) (by grind)
theorem Pt.mono{P Q:AT->To->Prop}(h:∀a b,P a b->Q a b):∀ {l:List (Lit×A6 AT)} {m:List (Lit×To)},Pt P l m->Pt Q l m
 | [],[],_=>trivial
 | _::_,_::_,⟨⟨k,x,e,a⟩,b⟩=>⟨⟨k,x,e,h _ _ a⟩,Pt.mono h b⟩
theorem Pt.filter{P:AT->To->Prop}(c:Lit->Bool):∀ {l:List (Lit×A6 AT)} {m:List (Lit×To)},Pt P l m->Pt P (l.filter fun p=>c p.1) (m.filter fun p=>c p.1)
 | [],[],_=>trivial
 | a::r,b::s,⟨⟨k,x,e,h⟩,t⟩=>by
  simp only[List.filter_cons];rw[k];split
  ·exact⟨⟨k,x,e,h⟩,Pt.filter c t⟩
  ·exact Pt.filter c t
theorem Pt.insert{P:AT->To->Prop}(k:Lit)(x:AT)(v:To)(h:P x v):∀ {l:List (Lit×A6 AT)} {m:List (Lit×To)},Pt P l m->Pt P (Bs (k,.held x) l) (Bs (k,v) m)
 | [],[],_=>⟨⟨rfl,x,rfl,h⟩,trivial⟩
 | a::r,b::s,⟨⟨kk,y,e,g⟩,t⟩=>by
  simp only[Bs];rw[kk];split
  ·exact⟨⟨rfl,x,rfl,h⟩,⟨kk,y,e,g⟩,t⟩
  ·exact⟨⟨kk,y,e,g⟩,Pt.insert k x v h t⟩
theorem Pt.has{P:AT->To->Prop}(k:Lit):∀ {l:List (Lit×A6 AT)} {m:List (Lit×To)},Pt P l m->CH (.map l) k=CH (.map m) k
 | [],[],_=>rfl
 | a::r,b::s,⟨⟨kk,_⟩,t⟩=>by
  have:=Pt.has k t;simp only[CH,List.any_cons] at this |-
  grind
theorem Pt.put{P:AT->To->Prop}(k:Lit)(x:AT)(v:To)(h:P x v){l:List (Lit×A6 AT)}{m:List (Lit×To)}(t:Pt P l m):
  ∃l' m',C2 (.map l) k (.held x)=.map l'/\C2 (.map m) k v=.map m'/\Pt P l' m':=
 ⟨_,_,rfl,rfl,Pt.insert k x v h (Pt.filter (fun c=>!c.sameKey k) t)⟩
theorem AX{B e:Nat}{xs:List AT}(h:w.ownsRow B e 1 v n xs)(hk:∀g,v.ownBlock=some g->w'.heap[g]? = w.heap[g]?):w'.ownsRow B e 1 v n xs:=by
 refine⟨h.1,h.2.imp id ?_⟩;rintro⟨g,cap,cur,h1,h2,h3,h4⟩;exact⟨g,cap,cur,h1,h2,(hk g (by rw[h1];rfl)).trans h3,h4⟩
theorem Aw{B e:Nat}{xs:List AT}(h:w.ownsRow B e 1 v n xs)(g:Nat)(hg:v.ownBlock=some g):g<w.heap.size/\B<=g:=by
 rcases h.2 with⟨h1,_⟩|⟨g',cap,cur,h1,h2,h3,_⟩
 ·rw[h1] at hg;cases hg
 ·rw[h1] at hg;injection hg with hg;grind
theorem A7{m:Nat}{D:A6 AT}(h:w.ownsMap AS 9 RV m n D):m<w.heap.size:=by
 obtain⟨es,q0,hb,_⟩:=h;grind
theorem Aj{m:Nat}{D:A6 AT}(h:w.ownsMap AS 9 RV m n D)(hk:w'.heap[m]? = w.heap[m]?):w'.ownsMap AS 9 RV m n D:=by
 obtain⟨es,q0,hb,r⟩:=h;exact⟨es,q0,hk.trans hb,r⟩
theorem VB.lt{b:Nat}{k:Int}{n:Nm}{sl mp:AT}(h:VB w b k n s sl mp):b<w.heap.size:=(A2.1 h).1
theorem VB.kept{b:Nat}{k:Int}{n:Nm}{sl mp:AT}(h:VB w b k n s sl mp)(hk:w'.heap[b]? = w.heap[b]?):VB w' b k n s sl mp:=hk.trans h
theorem Rep.move{F F':Nat->Prop}(hF:∀k,F k->k<w.heap.size->w'.heap[k]? = w.heap[k]? /\ F' k):∀ {f:Nat} {v:AT} {d:To},Rep f F w v d->Rep f F' w' v d:=by
 intro f;induction f with
 | zero=>intro v d h;exact h
 | succ f ih=>
  intro v d h;obtain⟨b,hv,hb,h⟩:=h;rcases h with⟨k,hk,hd,h⟩|⟨n,hd,h,q0⟩|⟨s,hd,h⟩|⟨es,sl,ps,hd,h,ho,hs,ha⟩|⟨es,m,n,D,hd,h,hm,ho,hp⟩
  ·have g:=hF b hb h.lt;exact⟨b,hv,g.2,CD ⟨k,hk,hd,h.kept g.1⟩⟩
  ·have g:=hF b hb h.lt;exact⟨b,hv,g.2,A3 (CD ⟨n,hd,h.kept g.1,q0⟩)⟩
  ·have g:=hF b hb h.lt;exact⟨b,hv,g.2,A3 (A3 (CD ⟨s,hd,h.kept g.1⟩))⟩
  ·have g:=hF b hb h.lt;exact⟨b,hv,g.2,A3 (A3 (A3 (CD ⟨es,sl,ps,hd,h.kept g.1,AX ho (fun g' hg=>(hF g' (hs g' hg) (Aw ho g' hg).1).1),fun g' hg=>(hF g' (hs g' hg) (Aw ho g' hg).1).2,ha.mono (fun _ _=>ih)⟩)))⟩
  ·have g:=hF b hb h.lt;have g2:=hF m hm (A7 ho);exact⟨b,hv,g.2,A3 (A3 (A3 (A3 ⟨es,m,n,D,hd,h.kept g.1,g2.2,Aj ho g2.1,hp.mono (fun _ _=>ih)⟩)))⟩
theorem Rep.ptr{f:Nat}{F:Nat->Prop}{d:To}(h:Rep f F w v d):∃b,v=.pointer (some ⟨b,0,none⟩)/\b<w.heap.size/\F b:=by
 cases f with
 | zero=>exact h.elim
 | succ f=>
  obtain⟨b,hv,hb,h⟩:=h;refine⟨b,hv,?_,hb⟩;rcases h with⟨k,hk,hd,h⟩|⟨n,hd,h,q0⟩|⟨s,hd,h⟩|⟨es,sl,ps,hd,h,ho,hs,ha⟩|⟨es,m,n,D,hd,h,hm,ho,hp⟩;all_goals exact h.lt
end Go.Proofs.YtdpomdelmdofmaaGreatDoor
