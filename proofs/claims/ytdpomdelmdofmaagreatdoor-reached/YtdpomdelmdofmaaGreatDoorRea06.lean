import Derived.Test.YtdpomdelmdofmaaGreatDoorRea05
import Derived.BigRegion
import GoSem.ClaimMapViews
import Derived.Maps.Views
import Derived.Maps.OwnSet
open Go.Lib renaming trimLeftB->AI,trimRightB->A3,hasPrefix->E0
open Go renaming World->AS,Value->AT,DataW->BY
open Or renaming inr->A1,inl->CH
open List renaming mem_cons->A2,mem_flatMap->A6,nodup_cons->Bs,dropWhile_sublist->C2,singleton_append->Dp,mem_append->D0,nil_append->D1,nodup_nil->D3,Sublist->Ft
open Go.Proofs.Tryz renaming prog->A4
open Go.DataW renaming insert->A5,put->Dt
open Array renaming getElem?_eq_some_iff->CD
open Go.WideShapes renaming insert_perm->C1
open Go.World renaming cell?->DD
open Go.Maps renaming has->D2
open Nat renaming le_refl->FD
open Go.RowKit.Below renaming refl->F1
set_option maxHeartbeats 2000000
namespace Go.Proofs.YtdpomdelmdofmaaGreatDoor
open Go.Proofs.Tryz Go.RowKit
variable{l r s:By}{w':AS}{n m f lo:Nat}{v sl:AT}{own:Option Nat}{ps:List AT}{D:List (Lit×BY AT)}
def BV(n:Nm):AT:=.agg #[.bool n.1,.string ⟨n.2.1.toArray⟩,.int .i64 n.2.2]
theorem Vp(s:ByteArray)(w:AS)(q0:s.size<=281474976710656):
  Calls A4 265 #[.string s] w fun e w'=>e=.returned (.string s)/\Below w.heap.size w w':=by
 go_enter func265,ntmps265
 go_wp2_with (fail);refine (Tryz.stringslite_Clone s _ q0).mono ?_
 rintro e w1 ⟨rfl,hb⟩
 go_wp2_with (fail)
 go_ret
 simp_all
theorem Ge(l:By)(c:UInt8):(AI l c).length<=l.length:=by
 unfold AI;exact (C2 _).length_le
theorem Gd(l:By)(c:UInt8):(A3 l c).length<=l.length:=by
 unfold A3;rw[List.length_reverse];exact Nat.le_trans (C2 _).length_le (by simp)
theorem LU(ng:Bool)(ds:By)(ex:Int)(w:AS)(h0:-10000000<=ex)(h1:ex<=10000000)(hl:ds.length<=4000):
  Calls A4 225 #[.bool ng,.string ⟨ds.toArray⟩,.int .i64 ex] w fun e w'=>e=.returned (BV (C0 ng ds ex))/\Below w.heap.size w w':=by
 have hq:Hid (C0 ng ds ex=if A3 (AI ds 48) 48=[] then (false,[],0) else (ng,A3 (AI ds 48) 48,ex+(AI ds 48).length-(A3 (AI ds 48) 48).length)):=rfl;have l1:=Ge ds 48;have l2:=Gd (AI ds 48) 48;have cL:∀W:AS,Calls A4 263 #[.string ⟨ds.toArray⟩,.string ⟨#[48]⟩] W fun e w'=>e=.returned (.string ⟨(AI ds 48).toArray⟩)/\w'=W:=fun W=>Tryz.strings_TrimLeft_one ⟨ds.toArray⟩ 48 (by decide) W;have cR:∀W:AS,Calls A4 264 #[.string ⟨(AI ds 48).toArray⟩,.string ⟨#[48]⟩] W fun e w'=>e=.returned (.string ⟨(A3 (AI ds 48) 48).toArray⟩)/\w'=W:=fun W=>Tryz.strings_TrimRight_one ⟨(AI ds 48).toArray⟩ 48 (by decide) W (by rw[Bc];omega);generalize A3 (AI ds 48) 48=wl at *;generalize AI ds 48=dl at *;have CL:=Ab cL;have CR:=Ab cR;clear cL cR;by_cases hw:wl=[]
 ·have hr:Hid (C0 ng ds ex=(false,[],0)):=by grind
  clear hq;subst hw
  go_enter func225,ntmps225
  go_wp2_with (fail);refine (Aa CL _).mono ?_
  rintro e w' ⟨rfl,rfl⟩
  go_wp2_with (fail);refine (Aa CR _).mono ?_
  rintro e w' ⟨rfl,rfl⟩
  go_wp2_with (fail);rw[Aa hr]
  refine bodyPost_ret (v:=BV (false,[],0)) (by simp[results,results225,go_sem,BV]) rfl ⟨rfl,?_⟩;exact (F1 _ _).alloc (FD _) _
 ·have he:=O1 hw;have hr:Hid (C0 ng ds ex=(ng,wl,ex+dl.length-wl.length)):=by grind
  clear hq hw
  go_enter func225,ntmps225
  go_wp2_with (fail);refine (Aa CL _).mono ?_
  rintro e w' ⟨rfl,rfl⟩
  go_wp2_with (fail);refine (Aa CR _).mono ?_
  rintro e w' ⟨rfl,rfl⟩
  go_wp2_with (fail);refine (Vp _ _ (by rw[Bc];omega)).mono ?_
  rintro e w2 ⟨rfl,hb⟩;have g0:w2.cell? ⟨w.heap.size,0,none⟩=some (.bool false):=(hb.cell (p:=⟨w.heap.size,0,none⟩) (by simp)).trans (by simp);have g1:w2.cell? ⟨w.heap.size,1,none⟩=some (.string ⟨#[]⟩):=(hb.cell (p:=⟨w.heap.size,1,none⟩) (by simp)).trans (by simp);have g2:w2.cell? ⟨w.heap.size,2,none⟩=some (.int .i64 0):=(hb.cell (p:=⟨w.heap.size,2,none⟩) (by simp)).trans (by simp);have hf:∀j,w2.frozen? ⟨w.heap.size,j,none⟩=(w.alloc (.cells #[.bool false,.string ⟨#[]⟩,.int .i64 0] 108)).frozen? ⟨w.heap.size,j,none⟩:=fun j=>hb.frozen (p:=⟨w.heap.size,j,none⟩) (by simp)
  go_wp2_with (fail);rw[Aa hr]
  refine bodyPost_ret (v:=BV (ng,wl,ex+dl.length-wl.length)) (by simp[results,results225,go_sem,BV,g0,g1,g2]) rfl ⟨rfl,?_⟩;exact ((((F1 w.heap.size w).alloc (FD _) _).trans (hb.mono (by simp))).setCell (by simp) _ |>.setCell (by simp) _).setCell (by simp) _
theorem QU{n:Int}(h:Cb l=some (n,r)):-1000000<=n/\n<=1000000:=by
 unfold Cb at h;have b:=fun l'=>WU (dg l') (UY l') 0 (by omega) (by omega)
 grind
def TL(o:Option (Nm×By))(e:Ending)(w':AS)(R:Nat)(t:ByteArray)(tw:Bool)(dp fr:Int):Prop:=
 (∃n l',o=some (n,l')/\e=.returned (.tuple #[BV n,.bool true])/\RD w' R t l' tw dp (max (max fr n.2.2) (-n.2.2))) \/
  (o=none/\e=.returned (.tuple #[BV (false,[],0),.bool false]) /\ ∃l',RD w' R t l' tw dp fr)
theorem Q0{d:UInt8}{ds:By}(h:dg l=d::ds)(c:UInt8):eA l c=(d==c):=by
 cases l with
 | nil=>simp[dg] at h
 | cons a r=>
  unfold dg at h;split at h
  ·injection h with h1 h2;subst h1;rfl
  ·cases h
theorem QT(d:UInt8)(ds:By)(h:0<(⟨(d::ds).toArray⟩:ByteArray).size):(((⟨(d::ds).toArray⟩:ByteArray)[0]'h).toNat:Int)=(d.toNat:Int):=by
 rfl
theorem Fc(d:UInt8)(ds:By):0<(⟨(d::ds).toArray⟩:ByteArray).size:=by rw[Bc];simp
theorem FW{f:By}(h:Dq l=some (f,r)):f.length+r.length<=l.length:=by
 unfold Dq at h;have b:=Cz l.tail
 grind
theorem YI{w:AS}{R q:Nat}{t:ByteArray}{tw:Bool}{dp fr:Int}(h:RP w R t q tw dp fr)(o:Obj)(v v':Int)(x y z:AT)(b:Nat)(hb:b≠R)(hv:v=v'):
  RP ((((((w.alloc o).setCell ⟨R,4,none⟩ (.int .i64 v)).setCell ⟨b,0,none⟩ x).setCell ⟨b,1,none⟩ y).setCell ⟨b,2,none⟩ z).drew) R t q tw dp v':=by
 subst hv;have h1:=(h.alloc o).set4 v;exact ((h1.kept ((((Ae.refl b _).setCell (p:=⟨b,0,none⟩) rfl x).setCell (p:=⟨b,1,none⟩) rfl y).setCell (p:=⟨b,2,none⟩) rfl z) (by omega))).drew
theorem QA(ng:Bool)(ds:By)(e:Int):(C0 ng ds e).2.2=0\/(e<=(C0 ng ds e).2.2/\(C0 ng ds e).2.2<=e+ds.length):=by
 unfold C0;have h1:=Ge ds 48;have h2:=Gd (AI ds 48) 48
 grind
def Ed(w:AS)(b:Nat):Prop:=w.heap[b]? = some (.cells #[.bool false,.string ⟨#[]⟩,.int .i64 0] 108 (0,0))
section
variable{w:AS}{b:Nat}
theorem Ed.c0(h:Ed w b):w.cell? ⟨b,0,none⟩=some (.bool false):=by simp[DD,show w.heap[b]? = _ from h]
theorem Ed.c1(h:Ed w b):w.cell? ⟨b,1,none⟩=some (.string ⟨#[]⟩):=by simp[DD,show w.heap[b]? = _ from h]
theorem Ed.c2(h:Ed w b):w.cell? ⟨b,2,none⟩=some (.int .i64 0):=by simp[DD,show w.heap[b]? = _ from h]
theorem Ed.fz(h:Ed w b)(o:Nat):w.frozen? ⟨b,o,none⟩=false:=by simp[World.frozen?,show w.heap[b]? = _ from h]
theorem Ed.kept{X:Nat}(h:Ed w b)(hk:Ae X w w')(hx:b≠X):Ed w' b:=(hk.block b (CD.1 h).1 hx).trans h
theorem Ed.new(w:AS):Ed (w.alloc (.cells #[.bool false,.string ⟨#[]⟩,.int .i64 0] 108)) w.heap.size:=by
 show (w.heap.push _)[w.heap.size]? = _;simp
end
abbrev To:=BY Unit
def AF(k:Nat):To:=.lit (.int .i64 k)
def Bd(n:Nm):To:=.agg [.lit (.bool n.1),.lit (.string n.2.1),.lit (.int .i64 n.2.2)]
def Ao(s:By):To:=.lit (.string s)
def Af(es:List To):To:=.slice es []
def Ap(es:List (Lit×To)):To:=.map es
abbrev Fl:=Bool×Int×Int
def gL:List By:=[[110,117,108,108],[116,114,117,101],[102,97,108,115,101]]
def Cu(l:By):Nat->List By->Option (Nat×By)
 | _,[]=>none
 | k,x::r=>if E0 l x then some (k,l.drop x.length) else Cu l (k+1) r
def gB{σ:Type}(cl:UInt8)(eX:By->σ->Option (By×σ)):Nat->By->σ->Option (By×σ)
 | 0,_,_=>none
 | n+1,l,s=>match eX (eF l) s with
  | none=>none
  | some (l1,s1)=>if eA (eF l1) cl then some ((eF l1).tail,s1) else if eA (eF l1) 44 then gB cl eX n (eF l1).tail s1 else none
def Bn{σ:Type}(op cl:UInt8)(eX:By->σ->Option (By×σ))(l:By)(s:σ):Option (By×σ):=
 if eA l op then (if eA (eF l.tail) cl then some ((eF l.tail).tail,s) else gB cl eX ((eF l.tail).length+1) (eF l.tail) s) else none
def CI(rd:By->Fl->Option (To×By×Fl))(l:By)(s:List To×Fl):Option (By×(List To×Fl)):=
 match rd l s.2 with
 | none=>none
 | some (v,r,fl)=>some (r,(s.1++[v],fl))
def Cr(rd:By->Fl->Option (To×By×Fl))(l:By)(s:To×Fl):Option (By×(To×Fl)):=
 match gG l with
 | none=>none
 | some (k,l1)=>if eA (eF l1) 58 then (match rd (eF (eF l1).tail) s.2 with
  | none=>none
  | some (v,r,fl)=>some (r,(Dt s.1 (.string k) v,(fl.1 || D2 s.1 (.string k),fl.2)))) else none
def eN:Nat->Int->By->Fl->Option (To×By×Fl)
 | 0,_,_,_=>none
 | f+1,dU,l,fl=>
  if eS l=123 then (match Bn 123 125 (Cr (eN f (dU+1))) l (Ap [],(fl.1,(max fl.2.1 dU,fl.2.2))) with
   | none=>none
   | some (r,(v,fl'))=>some (v,r,fl'))
  else if eS l=91 then (match Bn 91 93 (CI (eN f (dU+1))) l ([],(fl.1,(max fl.2.1 dU,fl.2.2))) with
   | none=>none
   | some (r,(es,fl'))=>some (Af es,r,fl'))
  else if eS l=34 then (match gG l with
   | none=>none
   | some (s,r)=>some (Ao s,r,(fl.1,(max fl.2.1 dU,fl.2.2))))
  else if eS l=45\/(48<=eS l/\eS l<=57) then (match gO l with
   | none=>none
   | some (n,r)=>some (Bd n,r,(fl.1,(max fl.2.1 dU,max (max fl.2.2 n.2.2) (-n.2.2)))))
  else match Cu l 0 gL with
   | none=>none
   | some (k,r)=>some (AF k,r,(fl.1,(max fl.2.1 dU,fl.2.2)))
theorem AY(l:By):(eF l).length<=l.length:=by
 induction l with
 | nil=>simp[eF]
 | cons c r ih=>
  grind [eF]
theorem Rk(l:By)(ws:List By)(hw:∀x∈ws,x≠[]):∀ (k n:Nat) (r:By),Cu l k ws=some (n,r)->r.length<l.length:=by
 induction ws with
 | nil=>intro k n r h;cases h
 | cons x ws ih=>
  intro k n r h;unfold Cu at h;split at h
  ·rename_i hp;unfold E0 at hp;have h3:=(List.isPrefixOf_iff_prefix.1 hp).length_le;have h4:0<x.length:=by grind
   grind
  grind
theorem Xp(f:Nat):∀ (l s r:By),C5 f l=some (s,r)->r.length<=l.length:=by
 induction f with
 | zero=>grind [C5]
 | succ f ih=>
  intro l s r h;unfold C5 at h;split at h
  ·grind
  ·split at h
   ·cases h
   ·rename_i c r1 hc;have:=LM hc
    grind
theorem GJ(h:gG l=some (s,r)):r.length<l.length:=by
 unfold gG at h;split at h
 ·rename_i k;have:=Bb k;have:=Xp _ _ _ _ h;omega
 ·cases h
theorem YS{σ:Type}(cl:UInt8)(eX:By->σ->Option (By×σ))(hi:∀l s l' s',eX l s=some (l',s')->l'.length<l.length)(n:Nat):∀ (l:By) (s:σ) (r:By) (s':σ),gB cl eX n l s=some (r,s')->r.length<l.length:=by
 induction n with
 | zero=>grind [gB]
 | succ n ih=>
  intro l s r s' h;unfold gB at h;split at h
  ·cases h
  ·rename_i l1 s1 h1;have a:=hi _ _ _ _ h1;have b:=AY l;have c:=AY l1
   grind
theorem KK{σ:Type}{op cl:UInt8}{eX:By->σ->Option (By×σ)}(hi:∀l s l' s',eX l s=some (l',s')->l'.length<l.length){s:σ}{s':σ}(h:Bn op cl eX l s=some (r,s')):r.length<l.length:=by
 unfold Bn at h;split at h
 ·rename_i k;have:=Bb k;have b:=AY l.tail;split at h
  ·grind
  ·have:=YS cl eX hi _ _ _ _ _ h;omega
 ·cases h
theorem kS{n:Nm}(h:gO l=some (n,r)):r.length<l.length:=by
 have hf:∀ {l:By} {n r},Cb l=some (n,r)->r.length<=l.length:=by
  intro l n r h;unfold Cb at h;have a:=Cz l.tail;have b:=Cz l.tail.tail
  grind
 have hb:∀ {b:Bool} {l:By} {n r},CC b l=some (n,r)->r.length<l.length:=by
  intro b l n r h;unfold CC at h;have a:=Cz l;split at h
  ·cases h
  ·rename_i hne;have q0:0<(dg l).length:=by
    grind
   split at h
   ·cases h
   ·rename_i f r1 h1;have:=FW h1
    grind
 grind [Cb,CC,gO]
theorem EC(f:Nat):∀ (dU:Int) (l:By) (fl:Fl) (v:To) (r:By) (fl':Fl),eN f dU l fl=some (v,r,fl')->r.length<l.length:=by
 induction f with
 | zero=>grind [eN,CI,Cr]
 | succ f ih=>
  intro dU l fl v r fl' h;unfold eN at h;have he:∀l s l' s',CI (eN f (dU+1)) l s=some (l',s')->l'.length<l.length:=by
   grind [eN,CI,Cr]
  have hm:∀l s l' s',Cr (eN f (dU+1)) l s=some (l',s')->l'.length<l.length:=by
   intro l s l' s' h;unfold Cr at h;split at h
   ·cases h
   ·rename_i k l1 hq;have a:=GJ hq;have b:=AY l1;split at h
    ·have c:=AY (eF l1).tail
     grind
    ·cases h
  split at h
  ·split at h
   ·cases h
   ·rename_i h1;have:=KK hm h1
    grind
  ·split at h
   ·split at h
    ·cases h
    ·rename_i h1;have:=KK he h1
     grind
   ·split at h
    ·split at h
     ·cases h
     ·rename_i h1;have:=GJ h1
      grind
    ·split at h
     ·split at h
      ·cases h
      ·rename_i h1;have:=kS h1
       grind
     ·split at h
      ·cases h
      ·rename_i h1;have:=Rk _ _ (by decide) _ _ _ h1
       grind
def RV(v:AT):Option (BY AT×List MemPlace):=some (.held v,[])
def VB(w:AS)(b:Nat)(k:Int)(n:Nm)(s:By)(sl mp:AT):Prop:=
 w.heap[b]? = some (.cells #[.int .i64 k,.bool n.1,.string ⟨n.2.1.toArray⟩,.int .i64 n.2.2,.string ⟨s.toArray⟩,sl,mp] 111 (0,0))
abbrev n0:Nm:=(false,[],0)
def Al{α β:Type}(P:α->β->Prop):List α->List β->Prop
 | [],[]=>True
 | a::r,b::s=>P a b/\Al P r s
 | _,_=>False
def Pt(P:AT->To->Prop):List (Lit×BY AT)->List (Lit×To)->Prop
 | [],[]=>True
 | a::r,b::s=>(a.1=b.1 /\ ∃x,a.2=.held x/\P x b.2)/\Pt P r s
 | _,_=>False
def Rep:Nat->(Nat->Prop)->AS->AT->To->Prop
 | 0,_,_,_,_=>False
 | f+1,F,w,v,d=>∃b,v=.pointer (some ⟨b,0,none⟩)/\F b /\
  ((∃k:Nat,k<3/\d=AF k/\VB w b k n0 [] (.slice none 0 0) (.map none)) \/
   (∃n,d=Bd n/\VB w b 3 n [] (.slice none 0 0) (.map none) /\ -100000000<=n.2.2/\n.2.2<=100000000) \/
   (∃s,d=Ao s/\VB w b 4 n0 s (.slice none 0 0) (.map none)) \/
   (∃es sl ps,d=Af es/\VB w b 5 n0 [] sl (.map none)/\w.ownsRow 0 80 1 sl ps.length ps/\(∀g,sl.ownBlock=some g->F g)/\Al (Rep f F w) ps es) \/
   (∃es m n D,d=Ap es/\VB w b 6 n0 [] (.slice none 0 0) (.map (some m))/\F m/\w.ownsMap A4 9 RV m n (.map D)/\Pt (Rep f F w) D es))
theorem Al.mono{α β:Type}{P Q:α->β->Prop}(h:∀a b,P a b->Q a b):∀ {l:List α} {m:List β},Al P l m->Al Q l m
 | [],[],_=>trivial
 | _::_,_::_,⟨a,b⟩=>⟨h _ _ a,Al.mono h b⟩
theorem Al.snoc{α β:Type}{P:α->β->Prop}{a:α}{b:β}(h:P a b):∀ {l:List α} {m:List β},Al P l m->Al P (l++[a]) (m++[b])
 | [],[],_=>⟨h,trivial⟩
 | _::_,_::_,⟨c,d⟩=>⟨c,Al.snoc h d⟩
theorem Al.length{α β:Type}{P:α->β->Prop}:∀ {l:List α} {m:List β},Al P l m->l.length=m.length
 | [],[],_=>rfl
 | _::_,_::_,⟨_,d⟩=>congrArg (· + 1) (Al.length d)
theorem Al.get{α β:Type}{P:α->β->Prop}:∀ {l:List α} {m:List β},Al P l m -> ∀ (i:Nat) (hi:i<l.length) (hj:i<m.length),P l[i] m[i]
 | _::_,_::_,⟨c,_⟩,0,_,_=>c
 | _::_,_::_,⟨_,d⟩,i+1,hi,hj=>Al.get d i (by grind) (by grind)
theorem Pt.mono{P Q:AT->To->Prop}(h:∀a b,P a b->Q a b):∀ {l:List (Lit×BY AT)} {m:List (Lit×To)},Pt P l m->Pt Q l m
 | [],[],_=>trivial
 | _::_,_::_,⟨⟨k,x,e,a⟩,b⟩=>⟨⟨k,x,e,h _ _ a⟩,Pt.mono h b⟩
theorem Pt.filter{P:AT->To->Prop}(c:Lit->Bool):∀ {l:List (Lit×BY AT)} {m:List (Lit×To)},Pt P l m->Pt P (l.filter fun p=>c p.1) (m.filter fun p=>c p.1)
 | [],[],_=>trivial
 | a::r,b::s,⟨⟨k,x,e,h⟩,t⟩=>by
  simp only[List.filter_cons];rw[k];split
  ·exact⟨⟨k,x,e,h⟩,Pt.filter c t⟩
  ·exact Pt.filter c t
theorem Pt.insert{P:AT->To->Prop}(k:Lit)(x:AT)(v:To)(h:P x v):∀ {l:List (Lit×BY AT)} {m:List (Lit×To)},Pt P l m->Pt P (A5 (k,.held x) l) (A5 (k,v) m)
 | [],[],_=>⟨⟨rfl,x,rfl,h⟩,trivial⟩
 | a::r,b::s,⟨⟨kk,y,e,g⟩,t⟩=>by
  simp only[A5];rw[kk];split
  ·exact⟨⟨rfl,x,rfl,h⟩,⟨kk,y,e,g⟩,t⟩
  ·exact⟨⟨kk,y,e,g⟩,Pt.insert k x v h t⟩
theorem Pt.has{P:AT->To->Prop}(k:Lit):∀ {l:List (Lit×BY AT)} {m:List (Lit×To)},Pt P l m->D2 (.map l) k=D2 (.map m) k
 | [],[],_=>rfl
 | a::r,b::s,⟨⟨kk,_⟩,t⟩=>by
  have:=Pt.has k t;simp only[D2,List.any_cons] at this |-
  grind
theorem Pt.put{P:AT->To->Prop}(k:Lit)(x:AT)(v:To)(h:P x v){l:List (Lit×BY AT)}{m:List (Lit×To)}(t:Pt P l m):
  ∃l' m',Dt (.map l) k (.held x)=.map l'/\Dt (.map m) k v=.map m'/\Pt P l' m':=
 ⟨_,_,rfl,rfl,Pt.insert k x v h (Pt.filter (fun c=>!c.sameKey k) t)⟩
theorem Be{w:AS}{B e:Nat}{xs:List AT}(h:w.ownsRow B e 1 v n xs)(hk:∀g,v.ownBlock=some g->w'.heap[g]? = w.heap[g]?):w'.ownsRow B e 1 v n xs:=by
 refine⟨h.1,h.2.imp id ?_⟩;rintro⟨g,cap,cur,h1,h2,h3,h4⟩;exact⟨g,cap,cur,h1,h2,(hk g (by rw[h1];rfl)).trans h3,h4⟩
theorem Ay{w:AS}{B e:Nat}{xs:List AT}(h:w.ownsRow B e 1 v n xs)(g:Nat)(hg:v.ownBlock=some g):g<w.heap.size/\B<=g:=by
 rcases h.2 with⟨h1,_⟩|⟨g',cap,cur,h1,h2,h3,_⟩
 ·rw[h1] at hg;cases hg
 ·rw[h1] at hg;injection hg with hg;grind
theorem Bg{w:AS}{D:BY AT}(h:w.ownsMap A4 9 RV m n D):m<w.heap.size:=by
 obtain⟨es,q0,hb,_⟩:=h;grind
theorem An{w:AS}{D:BY AT}(h:w.ownsMap A4 9 RV m n D)(hk:w'.heap[m]? = w.heap[m]?):w'.ownsMap A4 9 RV m n D:=by
 obtain⟨es,q0,hb,r⟩:=h;exact⟨es,q0,hk.trans hb,r⟩
theorem VB.lt{w:AS}{b:Nat}{k:Int}{n:Nm}{mp:AT}(h:VB w b k n s sl mp):b<w.heap.size:=(CD.1 h).1
theorem VB.kept{w:AS}{b:Nat}{k:Int}{n:Nm}{mp:AT}(h:VB w b k n s sl mp)(hk:w'.heap[b]? = w.heap[b]?):VB w' b k n s sl mp:=hk.trans h
theorem Rep.move{F F':Nat->Prop}{w:AS}(hF:∀k,F k->k<w.heap.size->w'.heap[k]? = w.heap[k]? /\ F' k):∀ {f:Nat} {v:AT} {d:To},Rep f F w v d->Rep f F' w' v d:=by
 intro f;induction f with
 | zero=>intro v d h;exact h
 | succ f ih=>
  intro v d h;obtain⟨b,hv,hb,h⟩:=h;rcases h with⟨k,hk,hd,h⟩|⟨n,hd,h,q0⟩|⟨s,hd,h⟩|⟨es,sl,ps,hd,h,ho,hs,ha⟩|⟨es,m,n,D,hd,h,hm,ho,hp⟩
  ·have g:=hF b hb h.lt;exact⟨b,hv,g.2,CH ⟨k,hk,hd,h.kept g.1⟩⟩
  ·have g:=hF b hb h.lt;exact⟨b,hv,g.2,A1 (CH ⟨n,hd,h.kept g.1,q0⟩)⟩
  ·have g:=hF b hb h.lt;exact⟨b,hv,g.2,A1 (A1 (CH ⟨s,hd,h.kept g.1⟩))⟩
  ·have g:=hF b hb h.lt;exact⟨b,hv,g.2,A1 (A1 (A1 (CH ⟨es,sl,ps,hd,h.kept g.1,Be ho (fun g' hg=>(hF g' (hs g' hg) (Ay ho g' hg).1).1),fun g' hg=>(hF g' (hs g' hg) (Ay ho g' hg).1).2,ha.mono (fun _ _=>ih)⟩)))⟩
  ·have g:=hF b hb h.lt;have g2:=hF m hm (Bg ho);exact⟨b,hv,g.2,A1 (A1 (A1 (A1 ⟨es,m,n,D,hd,h.kept g.1,g2.2,An ho g2.1,hp.mono (fun _ _=>ih)⟩)))⟩
theorem Rep.ptr{F:Nat->Prop}{w:AS}{d:To}(h:Rep f F w v d):∃b,v=.pointer (some ⟨b,0,none⟩)/\b<w.heap.size/\F b:=by
 cases f with
 | zero=>exact h.elim
 | succ f=>
  obtain⟨b,hv,hb,h⟩:=h;refine⟨b,hv,?_,hb⟩;rcases h with⟨k,hk,hd,h⟩|⟨n,hd,h,q0⟩|⟨s,hd,h⟩|⟨es,sl,ps,hd,h,ho,hs,ha⟩|⟨es,m,n,D,hd,h,hm,ho,hp⟩;all_goals exact h.lt
abbrev dS:=BY Unit
def dW(b g:Nat)(x:dS):dS:=.agg [.lit (.int .i64 b),.lit (.int .i64 g),x]
def dV:Nat->dS->To
 | 0,_=>.nil
 | f+1,a=>match a with
  | .agg [.lit (.int _ _),.lit (.int _ _),x]=>(match x with
   | .slice al _=>Af (al.map (dV f))
   | .map es=>Ap (es.map fun p=>(p.1,dV f p.2))
   | y=>y)
  | _=>.nil
def fp:Nat->dS->List Nat
 | 0,_=>[]
 | f+1,a=>match a with
  | .agg [.lit (.int _ b),.lit (.int _ g),x]=>b.toNat::(match x with
   | .slice al _=>(if g=0 then [] else [g.toNat])++al.flatMap (fp f)
   | .map es=>g.toNat::es.flatMap (fun p=>fp f p.2)
   | _=>[])
  | _=>[]
theorem VJ(f b g k:Nat):dV (f+1) (dW b g (AF k))=AF k:=rfl
theorem Yg(f b g:Nat)(n:Nm):dV (f+1) (dW b g (Bd n))=Bd n:=rfl
theorem Ye(f b g:Nat)(s:By):dV (f+1) (dW b g (Ao s))=Ao s:=rfl
theorem Bq(f b g:Nat)(al:List dS):dV (f+1) (dW b g (.slice al []))=Af (al.map (dV f)):=rfl
theorem AX(f b g:Nat)(es:List (Lit×dS)):dV (f+1) (dW b g (.map es))=Ap (es.map fun p=>(p.1,dV f p.2)):=rfl
theorem EL(f b g k:Nat):fp (f+1) (dW b g (AF k))=[b]:=rfl
theorem FY(f b g:Nat)(n:Nm):fp (f+1) (dW b g (Bd n))=[b]:=rfl
theorem FX(f b g:Nat)(s:By):fp (f+1) (dW b g (Ao s))=[b]:=rfl
theorem AP(f b g:Nat)(al:List dS):fp (f+1) (dW b g (.slice al []))=b::((if g=0 then [] else [g])++al.flatMap (fp f)):=by
 show ((b:Int).toNat::((if (g:Int)=0 then [] else [(g:Int).toNat])++al.flatMap (fp f)))=_
 grind
theorem Bo(f b g:Nat)(es:List (Lit×dS)):fp (f+1) (dW b g (.map es))=b::g::es.flatMap (fun p=>fp f p.2):=rfl
def Ad:Nat->AS->AT->dS->Prop
 | 0,_,_,_=>False
 | f+1,w,v,a=>∃b g x,a=dW b g x/\v=.pointer (some ⟨b,0,none⟩) /\
  ((∃k:Nat,k<3/\g=0/\x=AF k/\VB w b k n0 [] (.slice none 0 0) (.map none)) \/
   (∃n,g=0/\x=Bd n/\VB w b 3 n [] (.slice none 0 0) (.map none) /\ -100000000<=n.2.2/\n.2.2<=100000000) \/
   (∃s,g=0/\x=Ao s/\VB w b 4 n0 s (.slice none 0 0) (.map none)) \/
   (∃al sl ps,x=.slice al []/\VB w b 5 n0 [] sl (.map none)/\w.ownsRow 0 80 1 sl ps.length ps/\sl.ownBlock=(if g=0 then none else some g)/\Al (Ad f w) ps al) \/
   (∃es n D,x=.map es/\VB w b 6 n0 [] (.slice none 0 0) (.map (some g))/\w.ownsMap A4 9 RV g n (.map D)/\Pt (Ad f w) D es))
theorem Al.mem{α β:Type}{P Q:α->β->Prop}:∀ {l:List α} {m:List β},(∀a b,b∈m->P a b->Q a b)->Al P l m->Al Q l m
 | [],[],_,_=>trivial
 | _::_,_::_,h,⟨a,b⟩=>⟨h _ _ (by simp) a,Al.mem (fun a b hb hp=>h a b (by simp[hb]) hp) b⟩
theorem Pt.mem{P Q:AT->To->Prop}:∀ {l:List (Lit×BY AT)} {m:List (Lit×To)},(∀a p,p∈m->P a p.2->Q a p.2)->Pt P l m->Pt Q l m
 | [],[],_,_=>trivial
 | _::_,_::_,h,⟨⟨k,x,e,a⟩,b⟩=>⟨⟨k,x,e,h _ _ (by simp) a⟩,Pt.mem (fun a p hp hq=>h a p (by simp[hp]) hq) b⟩
theorem Al.mapR{α β γ:Type}{P:α->γ->Prop}{q:β->γ}:∀ {l:List α} {m:List β},Al (fun a b=>P a (q b)) l m->Al P l (m.map q)
 | [],[],_=>trivial
 | _::_,_::_,⟨a,b⟩=>⟨a,Al.mapR b⟩
theorem Pt.mapR{P:AT->To->Prop}{q:To->To}:∀ {l:List (Lit×BY AT)} {m:List (Lit×To)},Pt (fun a b=>P a (q b)) l m->Pt P l (m.map fun p=>(p.1,q p.2))
 | [],[],_=>trivial
 | _::_,_::_,⟨⟨k,x,e,a⟩,b⟩=>⟨⟨k,x,e,a⟩,Pt.mapR b⟩
theorem GL{g k:Nat}(h:sl.ownBlock=(if g=0 then none else some g))(hk:sl.ownBlock=some k):k=g/\g≠0:=by
 grind
theorem Ad.move{w w':AS}:∀ {f:Nat} {v:AT} {a:dS},(∀k∈fp f a,w'.heap[k]? = w.heap[k]?)->Ad f w v a->Ad f w' v a
 | 0,_,_,_,h=>h.elim
 | f+1,v,a,hk,h=>by
  obtain⟨b,g,x,rfl,hv,h⟩:=h;rcases h with⟨k,h1,h2,rfl,h⟩|⟨n,h2,rfl,h,q0⟩|⟨s,h2,rfl,h⟩|⟨al,sl,ps,rfl,h,ho,hs,ha⟩|⟨es,n,D,rfl,h,ho,hp⟩
  ·exact⟨b,g,_,rfl,hv,CH ⟨k,h1,h2,rfl,h.kept (hk b (by rw[EL];simp))⟩⟩
  ·exact⟨b,g,_,rfl,hv,A1 (CH ⟨n,h2,rfl,h.kept (hk b (by rw[FY];simp)),q0⟩)⟩
  ·exact⟨b,g,_,rfl,hv,A1 (A1 (CH ⟨s,h2,rfl,h.kept (hk b (by rw[FX];simp))⟩))⟩
  ·rw[AP] at hk;refine⟨b,g,_,rfl,hv,A1 (A1 (A1 (CH ⟨al,sl,ps,rfl,h.kept (hk b (by simp)),Be ho fun g' q5=>?_,hs,Al.mem (fun u c hc hu=>Ad.move (fun k q4=>hk k ?_) hu) ha⟩)))⟩
   ·grind
   grind
  ·rw[Bo] at hk;refine⟨b,g,_,rfl,hv,A1 (A1 (A1 (A1 ⟨es,n,D,rfl,h.kept (hk b (by simp)),An ho (hk g (by simp)),Pt.mem (fun u p hp hu=>Ad.move (fun k q4=>hk k ?_) hu) hp⟩)))⟩
   grind
theorem Ad.ptr{w:AS}{a:dS}(h:Ad f w v a):∃b,v=.pointer (some ⟨b,0,none⟩)/\b<w.heap.size/\b∈fp f a:=by
 cases f with
 | zero=>exact h.elim
 | succ f=>
  obtain⟨b,g,x,rfl,hv,h⟩:=h;refine⟨b,hv,?_,?_⟩
  ·rcases h with⟨k,_,_,rfl,h⟩|⟨n,_,rfl,h,_⟩|⟨s,_,rfl,h⟩|⟨al,sl,ps,rfl,h,_⟩|⟨es,n,D,rfl,h,_⟩
   all_goals exact h.lt
  ·rcases h with⟨k,_,_,rfl,h⟩|⟨n,_,rfl,h,_⟩|⟨s,_,rfl,h⟩|⟨al,sl,ps,rfl,h,_⟩|⟨es,n,D,rfl,h,_⟩
   ·rw[EL];simp
   ·rw[FY];simp
   ·rw[FX];simp
   ·rw[AP];simp
   ·rw[Bo];simp
theorem Al.right{α β:Type}{P:α->β->Prop}{b:β}:∀ {l:List α} {m:List β},Al P l m->b∈m -> ∃a,P a b
 | [],[],_,h=>by cases h
 | a::_,c::_,⟨h1,h2⟩,h=>by
  rcases A2.1 h with rfl|h
  ·grind
  ·exact Al.right h2 h
theorem Pt.right{P:AT->To->Prop}{p:Lit×To}:∀ {l:List (Lit×BY AT)} {m:List (Lit×To)},Pt P l m->p∈m -> ∃a,P a p.2
 | [],[],_,h=>by cases h
 | _::_,_::_,⟨⟨_,x,_,h1⟩,h2⟩,h=>by
  rcases A2.1 h with rfl|h
  ·grind
  ·exact Pt.right h2 h
theorem Ad.lt{w:AS}:∀ {f:Nat} {v:AT} {a:dS},Ad f w v a -> ∀k∈fp f a,k<w.heap.size
 | 0,_,_,h=>h.elim
 | f+1,v,a,h=>by
  intro k hk;obtain⟨b,g,x,rfl,hv,h⟩:=h;rcases h with⟨j,_,_,rfl,h⟩|⟨n,_,rfl,h,_⟩|⟨s,_,rfl,h⟩|⟨al,sl,ps,rfl,h,ho,hs,ha⟩|⟨es,n,D,rfl,h,ho,hp⟩
  ·rw[EL] at hk;obtain rfl:k=b:=by grind
   exact h.lt
  ·rw[FY] at hk;obtain rfl:k=b:=by grind
   exact h.lt
  ·rw[FX] at hk;obtain rfl:k=b:=by grind
   exact h.lt
  ·rw[AP] at hk;rcases A2.1 hk with rfl|hk
   ·exact h.lt
   ·rcases D0.1 hk with hk|hk
    ·split at hk
     ·cases hk
     ·rename_i h0;obtain rfl:k=g:=by grind
      exact (Ay ho k (by grind)).1
    ·obtain⟨c,hc,q0⟩:=A6.1 hk;obtain⟨u,hu⟩:=ha.right hc;exact Ad.lt hu k q0
  ·rw[Bo] at hk;rcases A2.1 hk with rfl|hk
   ·exact h.lt
   ·rcases A2.1 hk with rfl|hk
    ·exact Bg ho
    ·obtain⟨p,q4,q0⟩:=A6.1 hk;obtain⟨u,hu⟩:=hp.right q4;exact Ad.lt hu k q0
theorem Ad.rep{F:Nat->Prop}{w:AS}:∀ {f:Nat} {v:AT} {a:dS},(∀k∈fp f a,F k)->Ad f w v a->Rep f F w v (dV f a)
 | 0,_,_,_,h=>h.elim
 | f+1,v,a,hF,h=>by
  obtain⟨b,g,x,rfl,hv,h⟩:=h;rcases h with⟨k,h1,h2,rfl,h⟩|⟨n,h2,rfl,h,q0⟩|⟨s,h2,rfl,h⟩|⟨al,sl,ps,rfl,h,ho,hs,ha⟩|⟨es,n,D,rfl,h,ho,hp⟩
  ·exact⟨b,hv,hF b (by rw[EL];simp),CH ⟨k,h1,rfl,h⟩⟩
  ·exact⟨b,hv,hF b (by rw[FY];simp),A1 (CH ⟨n,rfl,h,q0⟩)⟩
  ·exact⟨b,hv,hF b (by rw[FX];simp),A1 (A1 (CH ⟨s,rfl,h⟩))⟩
  ·rw[AP] at hF;refine⟨b,hv,hF b (by simp),A1 (A1 (A1 (CH ⟨al.map (dV f),sl,ps,Bq _ _ _ _,h,ho,fun g' q5=>?_,Al.mapR (Al.mem (fun u c hc hu=>Ad.rep (fun k q4=>hF k ?_) hu) ha)⟩)))⟩
   ·grind
   grind
  ·rw[Bo] at hF;refine⟨b,hv,hF b (by simp),A1 (A1 (A1 (A1 ⟨es.map (fun p=>(p.1,dV f p.2)),g,n,D,AX _ _ _ _,h,hF g (by simp),ho,Pt.mapR (Pt.mem (fun u p hp hu=>Ad.rep (fun k q4=>hF k ?_) hu) hp)⟩)))⟩
   grind
def Tr(f lo:Nat)(w:AS)(v:AT)(d:To):Prop:=∃a,Ad f w v a/\dV f a=d/\(fp f a).Nodup /\ ∀k∈fp f a,lo<=k
theorem Tr.rep{w:AS}{d:To}(h:Tr f lo w v d):Rep f (fun k=>lo<=k) w v d:=by
 obtain⟨a,h1,rfl,_,h3⟩:=h;exact h1.rep h3
theorem Tr.move{q4:Nat}{w:AS}{d:To}(h:Tr f lo w v d)(hl:q4<=lo)(hk:∀k,lo<=k->k<w.heap.size->w'.heap[k]? = w.heap[k]?):Tr f q4 w' v d:=by
 obtain⟨a,h1,h2,h3,h4⟩:=h;exact⟨a,h1.move fun k q0=>hk k (h4 k q0) (h1.lt k q0),h2,h3,by grind⟩
theorem Tr.ptr{w:AS}{d:To}(h:Tr f lo w v d):∃b,v=.pointer (some ⟨b,0,none⟩)/\b<w.heap.size/\lo<=b:=by
 obtain⟨a,h1,_,_,h4⟩:=h;obtain⟨b,e,hb,hm⟩:=h1.ptr
 grind
theorem Tr.leafW{b k:Nat}{w:AS}(hb:lo<=b)(hk:k<3)(h:VB w b k n0 [] (.slice none 0 0) (.map none)):Tr (f+1) lo w (.pointer (some ⟨b,0,none⟩)) (AF k):=
 ⟨dW b 0 (AF k),⟨b,0,_,rfl,rfl,by grind⟩,rfl,by rw[EL];simp,by rw[EL];grind⟩
theorem Tr.leafN{b:Nat}{n:Nm}{w:AS}(hb:lo<=b)(h:VB w b 3 n [] (.slice none 0 0) (.map none))(h1:-100000000<=n.2.2/\n.2.2<=100000000):Tr (f+1) lo w (.pointer (some ⟨b,0,none⟩)) (Bd n):=
 ⟨dW b 0 (Bd n),⟨b,0,_,rfl,rfl,by grind⟩,rfl,by rw[FY];simp,by rw[FY];grind⟩
theorem Tr.leafS{b:Nat}{w:AS}(hb:lo<=b)(h:VB w b 4 n0 s (.slice none 0 0) (.map none)):Tr (f+1) lo w (.pointer (some ⟨b,0,none⟩)) (Ao s):=
 ⟨dW b 0 (Ao s),⟨b,0,_,rfl,rfl,by grind⟩,rfl,by rw[FX];simp,by rw[FX];grind⟩
def TrL(f lo:Nat)(own:Option Nat)(w:AS)(ps:List AT)(es:List To):Prop:=
 ∃al:List dS,Al (Ad f w) ps al/\al.map (dV f)=es/\(al.flatMap (fp f)).Nodup /\ ∀k∈al.flatMap (fp f),lo<=k/\own≠some k
theorem TrL.nil(f lo:Nat)(own:Option Nat)(w:AS):TrL f lo own w [] []:=⟨[],trivial,rfl,D3,fun k hk=>by cases hk⟩
theorem TrL.length{w:AS}{es:List To}(h:TrL f lo own w ps es):ps.length=es.length:=by
 obtain⟨al,h1,rfl,_⟩:=h;rw[List.length_map];exact h1.length
theorem Al.lts{w:AS}{al:List dS}(h:Al (Ad f w) ps al):∀k∈al.flatMap (fp f),k<w.heap.size:=by
 intro k hk;obtain⟨c,hc,q0⟩:=A6.1 hk;obtain⟨u,hu⟩:=h.right hc;exact hu.lt k q0
theorem TrL.move{q0:Option Nat}{w:AS}{es:List To}(h:TrL f lo own w ps es)(hk:∀k,lo<=k->own≠some k->k<w.heap.size->w'.heap[k]? = w.heap[k]? /\ q0≠some k):TrL f lo q0 w' ps es:=by
 obtain⟨al,h1,h2,h3,h4⟩:=h;refine⟨al,Al.mem (fun u c hc hu=>hu.move fun k q5=>?_) h1,h2,h3,fun k q4=>?_⟩
 ·exact⟨(h4 k q4).1,(hk k (h4 k q4).1 (h4 k q4).2 (h1.lts k q4)).2⟩
 ·have hm:k∈al.flatMap (fp f):=by grind
  exact (hk k (h4 k hm).1 (h4 k hm).2 (h1.lts k hm)).1
theorem TrL.snoc{q0:Option Nat}{w w2 w4:AS}{es:List To}{d:To}(h:TrL f lo own w ps es)(hv:Tr f w.heap.size w2 v d)(q5:lo<=w.heap.size)(hk:∀k,lo<=k->own≠some k->k<w.heap.size->w4.heap[k]? = w.heap[k]? /\ q0≠some k)(q4:∀k,w.heap.size<=k->k<w2.heap.size->w4.heap[k]? = w2.heap[k]? /\ q0≠some k):TrL f lo q0 w4 (ps++[v]) (es++[d]):=by
 obtain⟨al,h1,h2,h3,h4⟩:=h;obtain⟨a,g1,g2,g3,g4⟩:=hv;have hl:=h1.lts;have ha:∀k∈al.flatMap (fp f),w4.heap[k]? = w.heap[k]? /\ q0≠some k:=by grind
 refine⟨al++[a],Al.snoc (g1.move fun k hm=>(q4 k (g4 k hm) (g1.lt k hm)).1) (Al.mem (fun u c hc hu=>hu.move (by grind)) h1),by grind,?_,?_⟩
 ·grind
 ·intro k hm;rw[List.flatMap_append] at hm;rcases D0.1 hm with hm|hm
  ·grind
  ·have hm:k∈fp f a:=by grind
   have:=g4 k hm;exact⟨by omega,(q4 k this (g1.lt k hm)).2⟩
theorem TrL.arr{q4 b:Nat}{w:AS}{es:List To}(h:TrL f lo sl.ownBlock w ps es)(hb:q4<=b)(q5:b<lo)(hvb:VB w b 5 n0 [] sl (.map none))(ho:w.ownsRow 0 80 1 sl ps.length ps)(hs:∀g,sl.ownBlock=some g->lo<=g):Tr (f+1) q4 w (.pointer (some ⟨b,0,none⟩)) (Af es):=by
 obtain⟨al,h1,rfl,h3,h4⟩:=h;have q0:b ∉ al.flatMap (fp f):=by grind
 cases hsl:sl.ownBlock with
 | none=>
  refine⟨dW b 0 (.slice al []),⟨b,0,_,rfl,rfl,by grind⟩,rfl,?_,?_⟩
  ·rw[AP,if_pos rfl,D1,Bs];exact⟨q0,h3⟩
  ·intro k hk;rw[AP,if_pos rfl,D1] at hk;rcases A2.1 hk with rfl|hk
   ·exact hb
   ·have:=(h4 k hk).1;omega
 | some g=>
  have s1:=hs g hsl;have s3:g≠0:=by omega
  refine⟨dW b g (.slice al []),⟨b,g,_,rfl,rfl,by grind⟩,rfl,?_,?_⟩
  ·rw[AP,if_neg s3,Bs,Dp,Bs];refine⟨fun hm=>?_,fun hm=>(h4 g hm).2 hsl,h3⟩;rcases A2.1 hm with e|hm
   ·omega
   ·exact q0 hm
  ·intro k hk;rw[AP,if_neg s3,Dp] at hk;rcases A2.1 hk with rfl|hk
   ·exact hb
   ·rcases A2.1 hk with rfl|hk
    ·omega
    ·have:=(h4 k hk).1;omega
def TrM(f lo:Nat)(w:AS)(D:List (Lit×BY AT))(es:List (Lit×To)):Prop:=
 ∃al:List (Lit×dS),Pt (Ad f w) D al/\(al.map fun p=>(p.1,dV f p.2))=es/\(al.flatMap fun p=>fp f p.2).Nodup /\ ∀k∈al.flatMap fun p=>fp f p.2,lo<=k
theorem TrM.nil(f lo:Nat)(w:AS):TrM f lo w [] []:=⟨[],trivial,rfl,D3,fun k hk=>by cases hk⟩
theorem Pt.lts{w:AS}{al:List (Lit×dS)}(h:Pt (Ad f w) D al):∀k∈al.flatMap (fun p=>fp f p.2),k<w.heap.size:=by
 intro k hk;obtain⟨c,hc,q0⟩:=A6.1 hk;obtain⟨u,hu⟩:=h.right hc;exact hu.lt k q0
theorem TrM.move{w:AS}{es:List (Lit×To)}(h:TrM f lo w D es)(hk:∀k,lo<=k->k<w.heap.size->w'.heap[k]? = w.heap[k]?):TrM f lo w' D es:=by
 obtain⟨al,h1,h2,h3,h4⟩:=h;refine⟨al,Pt.mem (fun u p hp hu=>hu.move fun k q0=>?_) h1,h2,h3,h4⟩;have hm:k∈al.flatMap (fun p=>fp f p.2):=by grind
 exact hk k (h4 k hm) (h1.lts k hm)
theorem cY{α β:Type}(g:α->List β){l m:List α}(h:Ft l m):Ft (l.flatMap g) (m.flatMap g):=by
 induction h with
 | slnil=>grind
 | cons a _ ih=>grind
 | cons_cons a _ ih=>grind
theorem OJ(f:Nat)(x:Lit×dS)(l:List (Lit×dS)):(A5 x l).map (fun p=>(p.1,dV f p.2))=A5 (x.1,dV f x.2) (l.map fun p=>(p.1,dV f p.2)):=by
 induction l with
 | nil=>rfl
 | cons y r ih=>
  simp only[A5,List.map_cons]
  grind
theorem TrM.put{w w5 w6:AS}{es:List (Lit×To)}{k:Lit}{x:AT}{d:To}(h:TrM f lo w D es)(hv:Tr f w.heap.size w5 x d)(q5:lo<=w.heap.size)(hk:∀j,lo<=j->j<w.heap.size->w6.heap[j]? = w.heap[j]?)(q0:∀j,w.heap.size<=j->j<w5.heap.size->w6.heap[j]? = w5.heap[j]?):
  ∃D' es',Dt (.map D) k (.held x)=.map D'/\Dt (.map es:To) k d=.map es'/\TrM f lo w6 D' es':=by
 obtain⟨al,h1,rfl,h3,h4⟩:=h;obtain⟨a,g1,rfl,g3,g4⟩:=hv;have hl:=h1.lts;have g6:Ad f w6 x a:=g1.move fun j hm=>q0 j (g4 j hm) (g1.lt j hm);have h6:Pt (Ad f w6) D al:=Pt.mem (fun u p hp hu=>hu.move (by grind)) h1;refine⟨_,_,rfl,rfl,A5 (k,a) (al.filter fun p=>!p.1.sameKey k),Pt.insert k x a g6 (Pt.filter (fun c=>!c.sameKey k) h6),?_,?_,?_⟩
 ·rw[OJ,List.filter_map];rfl
 ·have hp:=(C1 (k,a) (al.filter fun p=>!p.1.sameKey k)).flatMap_right (fun p=>fp f p.2)
  grind
 ·intro j hj;obtain⟨p,hp,q4⟩:=A6.1 hj;rcases A2.1 ((C1 _ _).mem_iff.1 hp) with rfl|hp
  ·grind
  ·exact h4 j (by grind)
theorem TrM.pt{w:AS}{es:List (Lit×To)}(h:TrM f lo w D es):Pt (Rep f (fun k=>lo<=k) w) D es:=by
 obtain⟨al,h1,rfl,_,h4⟩:=h;exact Pt.mapR (Pt.mem (fun u p hp hu=>hu.rep fun k hk=>h4 k (by grind)) h1)
theorem TrM.obj{q0 b:Nat}{w:AS}{es:List (Lit×To)}(h:TrM f lo w D es)(hb:q0<=b/\b<lo)(hm:q0<=m/\m<lo)(q4:b≠m)(hvb:VB w b 6 n0 [] (.slice none 0 0) (.map (some m)))(ho:w.ownsMap A4 9 RV m n (.map D)):Tr (f+1) q0 w (.pointer (some ⟨b,0,none⟩)) (Ap es):=by
 obtain⟨al,h1,rfl,h3,h4⟩:=h;refine⟨dW b m (.map al),⟨b,m,_,rfl,rfl,by grind⟩,rfl,?_,?_⟩
 ·rw[Bo,Bs,Bs]
  grind
 ·intro k hk;rw[Bo] at hk
  grind
end Go.Proofs.YtdpomdelmdofmaaGreatDoor
