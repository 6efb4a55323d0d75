import Derived.Test.YtdpomdelmdofmaaGreatDoorP10
import Derived.Test.YtdpomdelmdofmaaGreatDoorP07
import Derived.Test.YtdpomdelmdofmaaGreatDoorP13
open Go.Lib renaming trimRightB->AI,trimLeftB->AS,hasPrefix->A1
open Go renaming World->AT,Value->A4,Calls->C0,Ending->DA,maxLen->DD
open Go.Value renaming ownBlock->A2,oneCell'->CR,pointer->C5
open Go.World renaming setCell->A3,cell?->B3
open Go.Proofs.Tryz renaming prog->A5
open Bool renaming or_assoc->Bs
open Go.RowKit renaming intOf->BY,wrap64->C1
open Int.ofNat renaming inj->B4
open List renaming any_nil->CD,any_append->CH,isPrefixOf->CL,drop_one->C2
open Go.DataW renaming put->C6
open Option renaming none->D0
set_option maxRecDepth 100000
set_option maxHeartbeats 35184372088832000
namespace Go.Proofs.YtdpomdelmdofmaaGreatDoor
open Go.Proofs.Tryz Go.RowKit Go.Maps
variable{c:UInt8}{r l l1:By}{o:Option (By×By)}{A t X:ByteArray}{R p V f n:Nat}{mo ex:Int}{tw far:Bool}{w' w0:AT}{σ:Type}{ps:List A4}{sl:A4}{e:DA}
theorem Pi(a b:ByteArray):(a++b).size=a.size+b.size:=Ĵ
theorem Sd(q4:pQ (c::r) 92=false):(rG (c::r)=(0,0)/\rP (c::r)=none)\/
  ∃v n,rG (c::r)=(v,n)/\1<=n/\n<=(c::r).length/\qS v=(c::r).take n/\rP (c::r)=if v<32 then none else some (v,(c::r).drop n):=by
 have hch:rP (c::r)=if(rC (c::r)).1<32\/((rC (c::r)).1=65533/\(rC (c::r)).2<2)then none else some ((rC (c::r)).1,(c::r).drop (rC (c::r)).2):=by
  grind [rC,rP,rG]
 have hpos:=M5 (c::r) φ;rcases VR c r with⟨hb,hs⟩|⟨hb,hs⟩
 .grind
 .right;have q5:Lib.decodeL (c::r)=rC (c::r):=θ;have q0:=Lib.encode_decode (c::r) φ ε;grind [rC,rP,rG]
def mS(o:Option (By×By))(t:ByteArray)(w:AT)(e:DA)(w':AT):Prop:=
 ((∃(s r:By) (b:ByteArray) (q:Nat),o=some (s,r)/\e=.returned (.tuple #[.string b,InB q])/\b.data.toList=s/\AtX t q r/\0<q)\/(o=none/\e=.returned (.tuple #[.string ⟨#[]⟩,InB 0])))/\Bl w w'
def G5(o:Option (By×By))(l:By)(A:ByteArray):Prop:=∃f,l.length<f/\o=(Ck f l).map λx=>(A.data.toList++x.1,x.2)
theorem G5.nil(h:G5 o [] A):o=none:=by
 obtain⟨f,hf,h⟩:=h
 match f,hf with
 |f+1,_=>rw[h];rfl
theorem G5.quo(h:G5 o (34::l) A):o=some (A.data.toList,l):=by
 obtain⟨f,hf,h⟩:=h
 match f,hf with
 |f+1,_=>
  rw[h,Ck,if_pos θ];simp
theorem G5.none(h:G5 o l A)(h34:pQ l 34=false)(hc:rP l=D0):o=D0:=by
 obtain⟨f,hf,h⟩:=h
 match f,hf with
 |f+1,_=>rw[h,Ck,h34,if_neg η,hc];rfl
theorem G5.some{s:ByteArray}{c:Nat}(h:G5 o l A)(h34:pQ l 34=false)(hc:rP l=Option.some (c,r))(hs:s.data.toList=qS c):G5 o r (A++s):=by
 obtain⟨f,hf,h⟩:=h;have hl:=(Gs hc).1
 match f,hf with
 |f+1,hf=>
  refine⟨f,ζ,?_⟩;rw[h,Ck,h34,if_neg η,hc];simp only;cases Ck f r with
  |none=>rfl
  |some x=>simp_all
theorem NF{w:AT}(h:RS w R t)(ha:AtX t p (34::r))(hR:R<w.1.size):
  C0 A5 128 #[.pointer (some ⟨R,0,none⟩),.int .i64 p] w λe w'=>mS (rJ (34::r)) t w e w':=by
 have z1:=Ab h;have z0:Hid (G5 (rJ (34::r)) r ⟨#[]⟩):=⟨(34::r).length+1,ω,by
  unfold rJ;rw[if_pos θ,Ą];cases Ck ((34::r).length+1) r with
  |none=>rfl
  |some x=>simp⟩
 have HA:=Ab ha.next;have hsz:=ha.small;have ze:=ha.next.len;have z9:=ha.le;clear h ha;go_enter func128,ntmps128;go_wp2;go_loopw [1,6] (λi out wr=>∃(q:Nat) (l':By) (A:ByteArray),i=.int .i64 q/\out=.string A/\AtX t q l'/\G5 (rJ (34::r)) l' A/\A.size+4*l'.length<=35184372088832/\0<q/\Bl w wr) (λi _ _=>t.size-(BY i).toNat)
 case atStart=>exact⟨p+1,r,⟨#[]⟩,ψ,rfl,HA.u,z0.u,by show 0+_<=_;omega,ζ,Bj⟩
 case round=>
  obtain⟨q,l',A,rfl,rfl,q4,hI,qu,zh,q0⟩:=hrel;have HI:=Ab hI;have HQ:=Ab q4;have HB:=Ab q0;have c0:wr.cell? ⟨R,0,none⟩=some (.string t):=(q0.cell (p:=⟨R,0,none⟩) hR).trans z1.u;have z5:R<wr.1.size:=Õ hR q0.size;cases l' with
  |nil=>
   have hp:=q4.nil;have e1:¬q<t.size:=ζ;have e2:t.size<=q:=ζ;have HO:=Ab hI.nil;clear q4 hI q0 hp;go_wp2;go_ret2;exact⟨À ⟨HO.u,rfl⟩,HB.u⟩
  |cons d l'=>
   have hlt:=q4.lt;have z8:¬t.size<=q:=ζ;have q6:t[q]'hlt=d:=q4.byte;have zb:=Ab q6;by_cases h34:d=34
   .subst h34;have e3:(((t[q]'hlt).toNat:Int)!=34)=false:=by rw[q6];rfl
    have HO:=Ab hI.quo;clear q4 hI q0 q6;go_wp2;go_ret2;exact⟨Å ⟨_,l',A,q+1,HO.u,ψ,rfl,HQ.u.next,ζ⟩,HB.u⟩
   .have qr:pQ (d::l') 34=false:=by rw[Cp,beq_eq_false_iff_ne];exact h34
    have e3:(((t[q]'hlt).toNat:Int)!=34)=true:=by
     rw[q6,bne_iff_ne];intro k;exact h34 (ì.1 (by exact_mod_cast k))
    have qb:=Ab qr;by_cases qh:d=92
    .subst qh;have e4:(((t[q]'hlt).toNat:Int)==92)=true:=by rw[q6];rfl
     have qw:rP (92::l')=rM l':=by unfold rP;rw[if_pos θ,Ą]
     have qt:=Ab qw;have qf:=Ab qu;clear q4 hI q0 q6 qr qw h34;go_wp2_with fail;refine(Rc (w:=wr) (R:=R) (by exact c0) HQ.u).mono ?_;rintro e w2⟨⟨c,r',s,q2,ho,rfl,hs,q9,za⟩|⟨ho,rfl⟩,hb2⟩
     .have hc:=qt.u.trans ho;have qd:=HI.u.some qb.u hc hs;have qe:=(Gs hc).1;have hsl:s.size<=4:=by rw[Ė,hs];exact Gp _
      have qk:=Ab qd;have q7:=Ab q9;have q8:=Ab (HB.u.trans (hb2.mono HB.u.size));have hz0:((q2:Int)==0)=false:=ω;have hb3:A.size+s.size+4*r'.length<=35184372088832:=by have:=qf.u;simp at this qe;omega
      have qj:=Ab hb3;have z4:A.size<=35184372088832:=ζ;have qm:=q9.len;have qy:=HQ.u.len;have HM:=Ab (show t.size-q2<t.size-q by simp at qe qy;omega);clear ho hs q9 hb2 hc qd qe hb3 qm qy;go_wp2;exact⟨⟨q2,r',A++s,rfl,rfl,q7.u,qk.u,by rw[Pi];exact qj.u,za,q8.u⟩,by simp only[BY];exact HM.u⟩
     .have HO:=Ab (HI.u.none qb.u (qt.u.trans ho));have q8:=Ab (HB.u.trans (hb2.mono HB.u.size));clear ho hb2;go_wp2;go_ret2;exact⟨À ⟨HO.u,rfl⟩,q8.u⟩
    .have qz:pQ (d::l') 92=false:=by rw[Cp,beq_eq_false_iff_ne];exact qh
     have e4:(((t[q]'hlt).toNat:Int)==92)=false:=by
      rw[q6,beq_eq_false_iff_ne];intro k;exact qh (ì.1 (by exact_mod_cast k))
     have z2:=Ab (Sd qz);have qf:=Ab qu;clear q4 hI q0 q6 qr qz h34 qh;go_wp2_with fail;refine(JR HQ.u _).mono ?_;rintro e w2⟨rfl,hb2⟩;have q8:=Ab (HB.u.trans (hb2.mono HB.u.size));have zc:w2.cell? ⟨R,0,none⟩=some (.string t):=(hb2.cell (p:=⟨R,0,none⟩) z5).trans c0;clear hb2;rcases z2.u with⟨hs,hc⟩|⟨v,n,hs,qo,qi,q5,hc⟩
     .have HO:=Ab (HI.u.none qb.u hc);rw[hs];clear hs hc;go_wp2;go_ret2;exact⟨À ⟨HO.u,rfl⟩,q8.u⟩
     .have zf:((n:Int)==0)=false:=ω;by_cases qg:v<32
      .have z3:decide ((v:Int)<32)=true:=decide_eq_true ζ;have HO:=Ab (HI.u.none qb.u (by rw[hc,if_pos qg]));rw[hs];clear hs hc q5 qg qo qi;go_wp2;go_ret2;exact⟨À ⟨HO.u,rfl⟩,q8.u⟩
      .have z3:decide ((v:Int)<32)=false:=decide_eq_false ζ;have qv:rP (d::l')=some (v,(d::l').drop n):=by rw[hc,if_neg qg]
       have zg:n<=4:=by
        have h1:=congrArg List.length q5;rw[İ,Nat.min_eq_left qi]at h1;have:(qS v).length<=4:=Gp (v:Int);omega
       have q4:=HQ.u;have qm:=q4.len;obtain⟨qn,qq⟩:∃qn,qn=q+n:=⟨_,rfl⟩
       have zi:(q:Int)+(n:Int)=(qn:Int):=ζ;have z6:q<=qn:=ζ;have z7:qn<=t.size:=ζ;have hex:(t.extract q qn).data.toList=qS v:=by
        rw[q5,<-q4.eq,qq];simp[List.take_drop]
       have hsl:(t.extract q qn).size<=4:=by rw[Ė,hex];exact Gp _
       have qd:=HI.u.some (s:=t.extract q qn) qb.u qv hex;have qk:=Ab qd;have qe:((d::l').drop n).length+n=(d::l').length:=by rw[Ŏ];omega
       have qj:=Ab (show A.size+(t.extract q qn).size+4*((d::l').drop n).length<=35184372088832 by have:=qf.u;omega);have z4:A.size<=35184372088832:=by have:=qf.u;omega
       have q7:=Ab (show AtX t qn ((d::l').drop n) by rw[qq];exact q4.add n qi);have HM:=Ab (show t.size-qn<t.size-q from ζ);have HN:=Ab qo;rw[hs];clear hs hc qv q5 qg qo qi q4 qm qq hex qd qe;go_wp2;exact⟨⟨qn,(d::l').drop n,A++t.extract q qn,rfl,rfl,q7.u,qk.u,by rw[Pi];exact qj.u,ζ,q8.u⟩,by simp only[BY];exact HM.u⟩
def rX:By->Int->Int
 |[],n=>n
 |c::r,n=>rX r (min (10*n+((c.toNat:Int)-48)) 1000000000)
theorem Fz(t:ByteArray)(hs:t.size<=8796093022208)(hd:∀c∈t.data.toList,qW c=true)(w:AT):
  C0 A5 132 #[.string t] w λe w'=>e=.returned (InB (rX t.data.toList 0))/\w'=w:=by
 have HD:=Ab hd;clear hd;go_enter func132,ntmps132;go_wp2;go_loopw [3,4] (λn i wr=>∃(k:Nat) (m:Int),k<=t.size/\i=InB k/\n=InB m/\0<=m/\m<=1000000000/\rX t.data.toList 0=rX (t.data.toList.drop k) m/\wr=w) (λ_ i _=>t.size-(BY i).toNat)
 case atStart=>grind
 case round=>
  obtain⟨k,m,hk,rfl,rfl,q9,qb,he,rfl⟩:=hrel;have HE:=Ab he;clear he;by_cases hlt:k<t.size
  .have hd:=HD.u (t[k]'hlt) (by
    have:t[k]'hlt=t.data.toList[k]'κ:=rfl;grind)
   rw[CI]at hd;obtain⟨d1,d2⟩:=hd;have q7:rX (t.data.toList.drop k) m=rX (t.data.toList.drop (k+1)) (min (10*m+(((t[k]'hlt).toNat:Int)-48)) 1000000000):=by
    rw[DW t k hlt];rfl
   have q5:=Ab q7;have hw:C1 (((t[k]'hlt).toNat:Int)-48)=((t[k]'hlt).toNat:Int)-48:=by unfold C1;omega
   have qd:(((t[k]'hlt).toNat:Int)-48) % 256=((t[k]'hlt).toNat:Int)-48:=ζ;clear q7;by_cases hg:1000000000<10*m+(((t[k]'hlt).toNat:Int)-48)
   .have q0:min (10*m+(((t[k]'hlt).toNat:Int)-48)) 1000000000=1000000000:=ζ;have q4:=Ab q0;clear q0;go_wp2;exact⟨⟨k+1,1000000000,ζ,ψ,rfl,ζ,ζ,by rw[HE.u,q5.u,q4.u],trivial⟩,by simp only[BY];omega⟩
   .have q0:min (10*m+(((t[k]'hlt).toNat:Int)-48)) 1000000000=10*m+(((t[k]'hlt).toNat:Int)-48):=ζ;have q4:=Ab q0;clear q0;go_wp2;exact⟨⟨k+1,_,ζ,ψ,rfl,ζ,ζ,by rw[HE.u,q5.u,q4.u],trivial⟩,by simp only[BY];omega⟩
  .have q6:t.data.toList.drop k=[]:=aZ t k hlt;have q8:=Ab q6;clear q6;go_wp2;go_ret;exact⟨by rw[HE.u,q8.u];rfl,rfl⟩
theorem lO(l:By)(hd:∀c∈l,qW c=true):∀(a b:Int),0<=a->0<=b->(a=b/\b<1000000\/1000000<=a/\b=1000000)->(rX l a=Bg l b/\Bg l b<1000000\/1000000<=rX l a/\Bg l b=1000000):=by
 induction l with
 |nil=>intro a b _ _ h;exact h
 |cons c r ih=>
  intro a b ha hb h;obtain⟨d1,d2⟩:=(CI c).1 (hd c φ);rw[rX,Bg];exact ih ε _ _ ζ ζ ζ
def RB(w:AT)(R:Nat)(t:ByteArray)(mo:Int)(tw far:Bool):Prop:=w.1[R]?=some (.cells #[.string t,InB mo,.bool tw,.bool far] 139 (0,0))
theorem RB.rs{w:AT}(h:RB w R t mo tw far):RS w R t:=by
 show CeB w R 0=_;simp[B3,show w.1[R]?=_ from h]
def VN(w:AT)(V:Nat)(ng:Bool)(ds:ByteArray)(ex:Int):Prop:=
 w.1[V]?=some (.cells #[.string ⟨#[110,117,109,98,101,114]⟩,.bool ng,.string ds,InB ex,.string ⟨#[]⟩,.slice none 0 0,.slice none 0 0] 91 (0,0))
theorem VN.c1{w:AT}{ng:Bool}{ds:ByteArray}(h:VN w V ng ds ex):CeB w V 1=some (.bool ng):=ck h
theorem VN.c2{w:AT}{ng:Bool}{ds:ByteArray}(h:VN w V ng ds ex):CeB w V 2=some (.string ds):=ck h
theorem VN.c3{w:AT}{ng:Bool}{ds:ByteArray}(h:VN w V ng ds ex):CeB w V 3=some (InB ex):=ck h
theorem VN.fz{w:AT}{ng:Bool}{ds:ByteArray}(h:VN w V ng ds ex)(o:Nat):w.frozen? ⟨V,o,none⟩=false:=fk h
theorem VN.set1{w:AT}{ng:Bool}{ds:ByteArray}(h:VN w V ng ds ex)(b:Bool):VN (w.setCell ⟨V,1,none⟩ (.bool b)) V b ds ex:=by
 unfold VN at h |-;rw[BX h];rfl
theorem VN.set2{w:AT}{ng:Bool}{ds:ByteArray}(h:VN w V ng ds ex)(s:ByteArray):VN (w.setCell ⟨V,2,none⟩ (.string s)) V ng s ex:=by
 unfold VN at h |-;rw[BX h];rfl
theorem VN.set3{w:AT}{ng:Bool}{ds:ByteArray}(h:VN w V ng ds ex)(x:Int):VN (w.setCell ⟨V,3,none⟩ (InB x)) V ng ds x:=by
 unfold VN at h |-;rw[BX h];rfl
theorem RB.c1{w:AT}(h:RB w R t mo tw far):CeB w R 1=some (InB mo):=ck h
theorem RB.c3{w:AT}(h:RB w R t mo tw far):CeB w R 3=some (.bool far):=ck h
theorem RB.fz{w:AT}(h:RB w R t mo tw far)(o:Nat):w.frozen? ⟨R,o,none⟩=false:=fk h
theorem RB.set3{w:AT}(h:RB w R t mo tw far)(b:Bool):RB (w.setCell ⟨R,3,none⟩ (.bool b)) R t mo tw b:=by
 unfold RB at h |-;rw[BX h];rfl
theorem RB.lt{w:AT}(h:RB w R t mo tw far):R<w.1.size:=(È.1 h).1
theorem RB.kept{w:AT}(h:RB w R t mo tw far)(k:Ac V w w')(hn:R≠V):RB w' R t mo tw far:=by
 unfold RB;rw[k.block R h.lt hn];exact h
theorem TF(h:l.getLast?=some 48):AI l 48=AI l.dropLast 48:=by
 obtain⟨x,rfl⟩:∃x,l=x++[48]:=by
  cases hl:l.reverse with
  |nil=>grind
  |cons a r=>
   simp_all
 unfold AI;simp
theorem Yu(h:l.getLast?≠some 48):AI l 48=l:=by
 unfold AI;cases hl:l.reverse with
 |nil=>simp_all
 |cons a r=>
  simp_all
theorem aF(X:ByteArray):(X.extract 1 X.size).data.toList=X.data.toList.tail:=by
 rw[<-C2];have:=Ė X;simp;grind [C2,List.length_tail]
theorem SP{k:Nat}(hk:X.size=k+1):X.data.toList.getLast?=some (X[k]'ζ):=by
 have:=Ė X;have h1:X.data.toList.length=k+1:=ζ;rw[List.getLast?_eq_getElem?,h1,Nat.add_sub_cancel,Ô ζ];rfl
theorem SX{k:Nat}(hk:X.size=k+1):X.data.toList.head?=some (X[0]'ζ):=by
 have:=DW X 0 ζ;grind
theorem cW{u:UInt8}(h:u.toNat=48):u=48:=ì.1 h
theorem UR(h:X.size=0):X.toList.isEmpty=true:=by
 simp_all
theorem Mr{k:Nat}(h:X.size=k+1):X.toList.isEmpty=false:=by
 rw[ByteArray.toList_eq];have:=Ė X;grind
theorem IF(h:l.head?=some 48):AS l 48=AS l.tail 48:=by
 cases l with
 |nil=>cases h
 |cons a r=>
  simp at h;subst h;rfl
theorem Gw(h:l.head?≠some 48):AS l 48=l:=by
 cases l with
 |nil=>rfl
 |cons a r=>
  simp at h;unfold AS;simp_all
abbrev O:=DataW Unit
def tL(k:Nat):O:=.lit (.int .i64 k)
def tB(n:Nm)(x:Int):O:=.agg [.lit (.bool n.1),.lit (.string n.2.1),.lit (.int .i64 n.2.2),.lit (.int .i64 x)]
def uA(s:By):O:=.lit (.string s)
def rK(es:List O):O:=.slice es []
abbrev Ms:=List (By×O)
def qK(es:Ms):List (Lit×O):=es.map λp=>(.string p.1,p.2)
def qF(es:Ms):O:=.map (qK es)
def tM(l:By):Int:=
 if pQ l 101 || pQ l 69 then
  (if pQ l.tail 45 then-rX (dg l.tail.tail) 0
   else if pQ l.tail 43 then rX (dg l.tail.tail) 0
   else rX (dg l.tail) 0)
 else 0
def uR(ds:By)(e:Int):Int:=
 let w:=AI ds 48
 if AS w 48=[]then 0 else e+ds.length-w.length
def uS(l:By):Int:=match B5 (qP l)with
 |none=>0
 |some (f,r)=>uR (dg l++f) (tM r-f.length)
def tN(l:By):Int:=if pQ l 45 then uS l.tail else uS l
def sV(rd:By->Option (O×By))(l:By)(s:List O):Option (By×List O):=match rd l with
 |none=>none
 |some (o,r)=>some (r,s++[o])
def rY(rd:By->Option (O×By))(l:By)(s:Ms):Option (By×Ms):=match rJ l with
 |none=>none
 |some (k,l1)=>if pQ (pR l1) 58 then(match rd (pR (pR l1).tail)with
  |none=>none
  |some (o,r)=>some (r,s++[(k,o)]))else none
def pX:Nat->By->Option (O×By)
 |0,_=>none
 |f+1,l=>
  if pY l=123 then(match AZ 123 125 (rY (pX f)) l []with
   |none=>none
   |some (r,es)=>some (qF es,r))
  else if pY l=91 then(match AZ 91 93 (sV (pX f)) l []with
   |none=>none
   |some (r,es)=>some (rK es,r))
  else if pY l=34 then(match rJ l with
   |none=>none
   |some (s,r)=>some (uA s,r))
  else if pY l=45\/(48<=pY l/\pY l<=57)then(match rO l with
   |none=>none
   |some (n,r)=>some (tB n (tN l),r))
  else match A6 l 0 rE with
   |none=>none
   |some (k,r)=>some (tL k,r)
def sZ(d:pL)(es:List (Lit×pL)):pL:=es.foldl (λm p=>C6 m p.1 p.2) d
def rL(a:Int)(l:List Int):Int:=l.foldl max a
def tX(q0:List Lit):List Lit->Bool
 |[]=>false
 |k::r=>q0.any (λp=>p.sameKey k) || tX (q0++[k]) r
def pO:Nat->O->pL
 |0,d=>d
 |f+1,d=>match d with
  |.agg [.lit (.bool ng),.lit (.string ds),.lit (.int _ e),.lit (.int _ _)]=>Bm (ng,ds,e)
  |.slice es _=>Ak (es.map (pO f))
  |.map es=>sZ (Ap []) (es.map λp=>(p.1,pO f p.2))
  |d=>d
def rR:Nat->O->Bool
 |0,_=>false
 |f+1,d=>match d with
  |.slice es _=>es.any (rR f)
  |.map es=>es.any (λp=>rR f p.2) || tX [] (es.map (·.1))
  |_=>false
def qR:Nat->O->Int
 |0,_=>1
 |f+1,d=>match d with
  |.slice es _=>rL 0 (es.map (qR f))+1
  |.map es=>rL 0 (es.map λp=>qR f p.2)+1
  |_=>1
def uI:Nat->O->Int
 |0,_=>0
 |f+1,d=>match d with
  |.agg [.lit (.bool _),.lit (.string _),.lit (.int _ e),.lit (.int _ _)]=>max e (-e)
  |.slice es _=>rL 0 (es.map (uI f))
  |.map es=>rL 0 (es.map λp=>uI f p.2)
  |_=>0
theorem J3(a:Int)(l:List Int)(x:Int):rL a (l++[x])=max (rL a l) x:=by simp[rL]
theorem V5(d:pL)(es:List (Lit×pL))(p:Lit×pL):sZ d (es++[p])=C6 (sZ d es) p.1 p.2:=by simp[sZ]
theorem Qg(l:List Lit)(k:Lit):∀q0,tX q0 (l++[k])=(tX q0 l || (q0++l).any (λp=>p.sameKey k)):=by
 induction l with
 |nil=>intro q0;simp[tX]
 |cons a r ih=>intro q0;simp[tX,ih,Bs]
theorem YY(es:List (Lit×pL)):∀d,IsMap d->IsMap (sZ d es):=by
 induction es with
 |nil=>intro d h;exact h
 |cons p r ih=>intro d h;exact ih _ (h.put _ _)
theorem ZY(k:Lit)(es:List (Lit×pL))(hk:∀p∈es,∃s,p.1=.string s):∀d,IsMap d->has (sZ d es) k=(has d k || es.any (λp=>p.1.sameKey k)):=by
 induction es with
 |nil=>intro d h;simp[sZ]
 |cons p r ih=>
  intro d h;show has (sZ (C6 d p.1 p.2) r) k=_;rw[ih ε _ (h.put _ _)];obtain⟨s,hs⟩:=hk p φ;have q0:WideAt.IsKeyLit p.1:=by rw[hs];trivial
  by_cases he:k=p.1
  .subst he;rw[has_put_same h q0,ļ,î q0];simp
  .rw[has_put_other he,ļ,sameKey_ne (λe=>he e.symm)];simp
theorem gD{τ:Type}(cl:UInt8)(it:By->σ->Option (By×σ))(jt:By->τ->Option (By×τ))(g:τ->σ)(h:∀l s,it l (g s)=(jt l s).map λx=>(x.1,g x.2))(n:Nat):
  ∀l s,qZ cl it n l (g s)=(qZ cl jt n l s).map λx=>(x.1,g x.2):=by
 induction n with
 |zero=>intro l s;rfl
 |succ n ih=>
  intro l s;unfold qZ;grind
theorem Md{τ:Type}(op cl:UInt8)(it:By->σ->Option (By×σ))(jt:By->τ->Option (By×τ))(g:τ->σ)(h:∀l s,it l (g s)=(jt l s).map λx=>(x.1,g x.2))(l:By)(s:τ):
  AZ op cl it l (g s)=(AZ op cl jt l s).map λx=>(x.1,g x.2):=by
 unfold AZ;split
 .split
  .rfl
  .exact gD cl it jt g h _ _ _
 .rfl
def uX(f:Nat)(lv:Int)(fl:Fl)(s:List O):Fl:=(fl.1 || s.any (rR f),(max (max fl.2.1 lv) (lv+rL 0 (s.map (qR f))),max fl.2.2 (rL 0 (s.map (uI f)))))
def uT(f:Nat)(lv:Int)(fl:Fl)(s:List (Lit×O)):Fl:=(fl.1 || (s.any (λp=>rR f p.2) || tX [] (s.map (·.1))),(max (max fl.2.1 lv) (lv+rL 0 (s.map λp=>qR f p.2)),max fl.2.2 (rL 0 (s.map λp=>uI f p.2))))
def sE(f:Nat)(lv:Int)(fl:Fl)(o:O):Fl:=(fl.1 || rR f o,(max fl.2.1 (lv-1+qR f o),max fl.2.2 (uI f o)))
theorem Kz(l:List Int):∀a,a<=rL a l:=by
 induction l with
 |nil=>grind [rL]
 |cons x r ih=>intro a;exact Int.le_trans (Int.le_max_left a x) (ih _)
theorem Z7(f:Nat)(lv:Int)(fl:Fl)(s:List O)(o:O):uX f lv fl (s++[o])=sE f (lv+1) (uX f lv fl s) o:=by
 unfold uX sE;simp only[CH,ļ,CD,Ħ,ă,Ð,ÿ,J3];grind
theorem Z6(f:Nat)(lv:Int)(fl:Fl)(s:List (Lit×O))(k:Lit)(o:O):
  uT f lv fl (s++[(k,o)])=((sE f (lv+1) (uT f lv fl s) o).1 || s.any (λp=>p.1.sameKey k),(sE f (lv+1) (uT f lv fl s) o).2):=by
 unfold uT sE;simp only[CH,ļ,CD,Ħ,ă,Ð,ÿ,J3,Qg,Ù,Ń];refine ą ?_ (ą ?_ ?_)
 .grind
 .grind
 grind
theorem K5(f:Nat):∀(lv:Int) (l:By) (fl:Fl),0<=fl.2.2->qL f lv l fl=(pX f l).map λx=>(pO f x.1,x.2,sE f lv fl x.1):=by
 induction f with
 |zero=>intro lv l fl h;rfl
 |succ f ih=>
  intro lv l fl h;unfold qL pX;by_cases h1:pY l=123
  .rw[if_pos h1,if_pos h1];have hs:=Md 123 125 (Cx (qL f (lv+1))) (rY (pX f)) (λs=>(sZ (Ap []) ((qK s).map λp=>(p.1,pO f p.2)),uT f lv fl (qK s))) (by
    intro l s;unfold Cx rY;cases rJ l with
    |none=>rfl
    |some x=>
     obtain⟨k,l1⟩:=x;simp only;by_cases h58:pQ (pR l1) 58=true
     .rw[if_pos h58,if_pos h58,ih _ _ _ (by unfold uT;grind)];cases pX f (pR (pR l1).tail)with
      |none=>rfl
      |some y=>
       obtain⟨o,r⟩:=y;have hh:has (sZ (Ap []) ((qK s).map λp=>(p.1,pO f p.2))) (.string k)=(qK s).any (λp=>p.1.sameKey (.string k)):=by
        rw[ZY (.string k) ((qK s).map λp=>(p.1,pO f p.2)) (λp hp=>by grind [sE,qK,rL]) (Ap []) ⟨[],rfl⟩,Ń];rfl
       have hl:qK (s++[(k,o)])=qK s++[(.string k,o)]:=by simp[qK]
       simp only[Ċ,hh,hl,Z6,ă,Ð,ÿ,V5]
     grind) l []
   have e0:uT f lv fl (qK [])=(fl.1,(max fl.2.1 lv,fl.2.2)):=by
    unfold uT;refine ą ?_ (ą ?_ ?_)
    .simp[qK,tX]
    .simp[qK,rL]
    .simp[qK,rL];omega
   rw[e0]at hs;rw[show(Ap [],(fl.1,(max fl.2.1 lv,fl.2.2)))=(sZ (Ap []) ((qK []).map λp=>(p.1,pO f p.2)),(fl.1,(max fl.2.1 lv,fl.2.2)))from rfl,hs];cases AZ 123 125 (rY (pX f)) l []with
   |none=>rfl
   |some x=>
    obtain⟨r,es⟩:=x;simp only[Ċ];refine congrArg some (ą rfl (ą rfl ?_));unfold sE uT;refine ą ?_ (ą ?_ ?_)
    .rfl
    .show max (max fl.2.1 lv) (lv+rL 0 ((qK es).map λp=>qR f p.2))=max fl.2.1 (lv-1+(rL 0 ((qK es).map λp=>qR f p.2)+1));have:=Kz ((qK es).map λp=>qR f p.2) 0;omega
    .rfl
  .rw[if_neg h1,if_neg h1];by_cases h2:pY l=91
   .rw[if_pos h2,if_pos h2];have hs:=Md 91 93 (CQ (qL f (lv+1))) (sV (pX f)) (λs=>(s.map (pO f),uX f lv fl s)) (by
     intro l s;unfold CQ sV;simp only;rw[ih _ _ _ (by unfold uX;grind)];cases pX f l with
     |none=>rfl
     |some x=>simp[Z7]) l []
    have e0:uX f lv fl []=(fl.1,(max fl.2.1 lv,fl.2.2)):=by
     unfold uX;refine ą ?_ (ą ?_ ?_)
     .simp
     .simp[rL]
     .simp[rL];omega
    rw[e0]at hs;simp only[ÿ]at hs;rw[hs];cases AZ 91 93 (sV (pX f)) l []with
    |none=>rfl
    |some x=>
     obtain⟨r,es⟩:=x;simp only[Ċ];refine congrArg some (ą rfl (ą rfl ?_));unfold sE uX;refine ą ?_ (ą ?_ ?_)
     .rfl
     .show max (max fl.2.1 lv) (lv+rL 0 (es.map (qR f)))=max fl.2.1 (lv-1+(rL 0 (es.map (qR f))+1));have:=Kz (es.map (qR f)) 0;omega
     .rfl
   .rw[if_neg h2,if_neg h2];by_cases h3:pY l=34
    .rw[if_pos h3,if_pos h3];cases rJ l with
     |none=>rfl
     |some x=>
      simp only[Ċ];refine congrArg some (ą rfl (ą rfl (ą ?_ (ą ?_ ?_))))
      .simp[sE,uA,rR]
      .simp[sE,uA,qR]
      .simp[sE,uA,uI];omega
    .rw[if_neg h3,if_neg h3];by_cases h4:pY l=45\/(48<=pY l/\pY l<=57)
     .rw[if_pos h4,if_pos h4];cases rO l with
      |none=>rfl
      |some x=>
       simp only[Ċ];refine congrArg some (ą rfl (ą rfl (ą ?_ (ą ?_ ?_))))
       .simp[sE,tB,rR]
       .simp[sE,tB,qR]
       .simp[sE,tB,uI]
     .rw[if_neg h4,if_neg h4];cases A6 l 0 rE with
      |none=>rfl
      |some x=>
       simp only[Ċ];refine congrArg some (ą rfl (ą rfl (ą ?_ (ą ?_ ?_))))
       .simp[sE,tL,rR]
       .simp[sE,tL,qR]
       .simp[sE,tL,uI];omega
theorem RB.drewN{w:AT}(h:RB w R t mo tw far)(n:Nat):RB (w.drewN n) R t mo tw far:=h
def jH(all:ByteArray)(ng:Bool)(ex mo:Int)(tw far:Bool)(t:ByteArray)(V R:Nat)(w:AT)(e:DA)(w':AT):Prop:=
 e=.returned (.tuple #[])/\∃(W:AT) (ds:ByteArray) (q0:Bool) (x:Int),ds.data.toList=AS (AI all.data.toList 48) 48/\x=uR all.data.toList ex/\q0=(if ds.data.toList=[]then false else ng)/\
  Ac V w W/\VN w' V q0 ds x/\RB w' R t mo tw (far || (decide (x < -mo) || decide (mo<x)))/\Ac R W w'
theorem VN.other{w:AT}{ng:Bool}{ds:ByteArray}(h:VN w V ng ds ex)(q0:V≠R)(b:Bool):VN (w.setCell ⟨R,3,none⟩ (.bool b)) V ng ds ex:=(Æ _ _ _ _ q0).trans h
theorem PL(h:X.size=0):X.data.toList=[]:=κ
theorem VN.drewN{w:AT}{ng:Bool}{ds:ByteArray}(h:VN w V ng ds ex)(n:Nat):VN (w.drewN n) V ng ds ex:=h
theorem V0{w:AT}{ng:Bool}(hv:VN w V ng ⟨#[]⟩ ex)(hr:RB w R t mo tw far)(qk:V≠R)(all:ByteArray)(hs:all.size<=20000000000000)(hex:-20000000000000<=ex/\ex<=20000000000000)(z6:0<=mo/\mo<=400):
  C0 A5 171 #[PtB R,PtB V,.string all] w λe w'=>jH all ng ex mo tw far t V R w e w':=by
 have HV:=Ab hv;have HR:=Ab hr;clear hv hr;go_enter func171,ntmps171;go_upto_block 0 with(fail)
 go_cut [2] (λs2 wx=>∃(X:ByteArray),s2=.string X/\Hid (X.data.toList=AI all.data.toList 48)/\X.size<=all.size/\VN wx V ng ⟨#[]⟩ (ex+(all.size:Int)-(X.size:Int))/\Ac V w wx)
 case first=>
  go_wp2;go_loopw [2] (λa wr=>∃(X:ByteArray) (x:Int),a=.string X/\AI X.data.toList 48=AI all.data.toList 48/\X.size<=all.size/\x=ex+(all.size:Int)-(X.size:Int)/\VN wr V ng ⟨#[]⟩ x/\Ac V w wr) (λa _=>match a with|.string X=>X.size|_=>0)
  case atStart=>exact⟨all,ex,rfl,rfl,Á _,ζ,HV.u,Ac.refl _ _⟩
  case round=>
   obtain⟨X,x,rfl,qo,qh,hx,q4,hk⟩:=hrel;have qb:=Ab qo;have HX:=Ab hx;have q0:=Ab q4;have HK:=Ab hk;have c3:=q4.c3;have z3:=q4.fz 3;have z9:-40000000000000<=x/\x<=40000000000000:=ζ;clear qo hx q4 hk;by_cases hX:X.size=0
   .have hE:=UR hX;go_wp2;go_meet;exact⟨X,rfl,by have h:=qb.u;rw[PL hX]at h |-;rw[<-h];rfl,qh,by rw[<-HX.u];exact q0.u,HK.u⟩
   .obtain⟨k,qg⟩:∃k,X.size=k+1:=⟨X.size-1,ζ⟩
    have hE:=Mr qg;have hlt:k<X.size:=ζ;have z7:C1 ((X.size:Int)-1)=(k:Int):=by unfold C1;omega
    by_cases qy:X[k].toNat=48
    .have qd:((X[k].toNat:Int)==48)=true:=ω;go_wp2_with fail;have z4:(X.extract 0 k).data.toList=X.data.toList.dropLast:=by
      simp_all
     have za:(X.extract 0 k).size=k:=κ;refine⟨⟨X.extract 0 k,x+1,rfl,?_,ζ,?_,q0.u.set3 _,HK.u.setCell rfl _⟩,?_⟩
     .rw[z4,<-TF (by rw[SP qg,cW qy]),qb.u]
     .have:=HX.u;omega
     grind
    .have qd:((X[k].toNat:Int)==48)=false:=ω;have qu:=Ab (Yu (l:=X.data.toList) (by rw[SP qg];intro e;simp_all));go_wp2;go_meet;exact⟨X,rfl,by have h:=qb.u;rw[qu.u]at h;exact h,qh,by rw[<-HX.u];exact q0.u,HK.u⟩
 case rest=>
 obtain⟨X,rfl,HX,qh,q4,hk⟩:=hcut;have q0:=Ab q4;have HK:=Ab hk;clear q4 hk;go_upto_block 2 with(fail)
 go_cut [2] (λs2 wx=>∃(Y:ByteArray),s2=.string Y/\Hid (Y.data.toList=AS X.data.toList 48)/\wx=wc)
 case first=>
  go_wp2;go_loopw [2] (λa wt=>∃(Y:ByteArray),a=.string Y/\AS Y.data.toList 48=AS X.data.toList 48/\wt=wc) (λa _=>match a with|.string Y=>Y.size|_=>0)
  case atStart=>exact⟨X,rfl,rfl,rfl⟩
  case round=>
   obtain⟨Y,rfl,qn,rfl⟩:=hrel;have q9:=Ab qn;clear qn;by_cases hY:Y.size=0
   .have q7:=UR hY;go_wp2;go_meet;exact⟨Y,rfl,by have h:=q9.u;rw[PL hY]at h |-;rw[<-h];rfl,rfl⟩
   .obtain⟨m,q5⟩:∃m,Y.size=m+1:=⟨Y.size-1,ζ⟩
    have q7:=Mr q5;have qz:0<Y.size:=ζ;by_cases qe:Y[0].toNat=48
    .have q6:((Y[0].toNat:Int)==48)=true:=ω;have z0:1<=Y.size:=ζ;go_wp2_with fail;have z5:(Y.extract 1 (m+1)).data.toList=Y.data.toList.tail:=by
      have:=aF Y;grind
     have zb:(Y.extract 1 (m+1)).size=m:=κ;refine⟨⟨Y.extract 1 (m+1),rfl,?_,trivial⟩,?_⟩
     .rw[z5,<-IF (by rw[SX q5,cW qe]),q9.u]
     grind
    .have q6:((Y[0].toNat:Int)==48)=false:=ω;have qw:=Ab (Gw (l:=Y.data.toList) (by rw[SX q5];intro e;simp_all));go_wp2;go_meet;exact⟨Y,rfl,by have h:=q9.u;rw[qw.u]at h;exact h,rfl⟩
 case rest=>
 obtain⟨Y,rfl,HY,rfl⟩:=hcut;have c1:=q0.u.c1;have c2:=q0.u.c2;have c3:=q0.u.c3;have z1:=q0.u.fz 1;have z2:=q0.u.fz 2;have z3:=q0.u.fz 3;go_upto_if 42 with(fail)
 go_cut [] (λwx=>∃(qj:Bool) (x:Int),VN wx V qj Y x/\Ac V w wx/\Hid (x=uR all.data.toList ex/\qj=(if Y.data.toList=[]then false else ng)))
 case first=>
  have hds:Y.data.toList=AS (AI all.data.toList 48) 48:=by rw[HY.u,HX.u]
  by_cases hy:Y.size=0
  .have q7:=UR hy;have hn:=PL hy;have HD:=Ab (show(0:Int)=uR all.data.toList ex/\false=(if Y.data.toList=[]then false else ng) by unfold uR;grind);clear hds hn hy;rw[q7];go_wp2;go_meet;exact⟨false,0,((q0.u.set2 Y).set3 0).set1 false,((HK.u.setCell rfl _).setCell rfl _).setCell rfl _,HD.u⟩
  .obtain⟨m,q5⟩:∃m,Y.size=m+1:=⟨Y.size-1,ζ⟩
   have q7:=Mr q5;have hn:Y.data.toList≠[]:=λe=>by have h:=Ė Y;grind
   have HD:=Ab (show ex+(all.size:Int)-(X.size:Int)=uR all.data.toList ex/\ng=(if Y.data.toList=[]then false else ng) by
    unfold uR;simp only;rw[if_neg ε,if_neg hn,<-HX.u,Ė X,Ė all];exact⟨rfl,rfl⟩)
   clear hds hn hy q5;rw[q7];go_wp2;go_meet;exact⟨ng,_,q0.u.set2 Y,HK.u.setCell rfl _,HD.u⟩
 case rest=>
 obtain⟨qj,x,qi,qf,HD⟩:=hcut;have q8:RB wc R t mo tw far:=HR.u.kept qf (ň qk);have qv:=Ab qi;have qt:=Ab q8;have qr:=Ab qf;have v3:=qi.c3;have q1:=q8.c1;have q3:=q8.c3;have zc:=q8.fz 3;have z8:C1 (-mo) = -mo:=by unfold C1;omega
 have qq:=Ab (show Y.data.toList=AS (AI all.data.toList 48) 48 by rw[HY.u,HX.u]);obtain⟨bb,qm⟩:∃bb,bb=(far || (decide (x < -mo) || decide (mo<x))):=⟨_,rfl⟩
 have HB:=Ab qm;have hc:(far=true/\bb=true)\/(far=false/\decide (x < -mo)=true/\bb=true)\/(far=false/\decide (x < -mo)=false/\decide (mo<x)=true/\bb=true)\/(far=false/\decide (x < -mo)=false/\decide (mo<x)=false/\bb=false):=ε;clear qi q8 qf qm c1 c2 c3 z1 z2 z3;rcases hc with⟨rfl,rfl⟩|⟨rfl,d1,rfl⟩|⟨rfl,d1,d2,rfl⟩|⟨rfl,d1,d2,rfl⟩;all_goals (
  go_upto_region 9 with(fail)
  go_big_region;all_goals (
   go_wp2;go_end0;refine⟨rfl,wc,Y,_,_,qq.u,HD.u.1,HD.u.2,qr.u,(VN.other qv.u qk _).drewN _,?_,((Ac.refl R wc).setCell rfl _).drewN _⟩;rw[<-HB.u];exact(qt.u.set3 _).drewN _))
theorem IE(a:UInt8)(r:By):AI (a::r) 48=if AI r 48=[]then(if a=48 then[]else[a])else a::AI r 48:=by
 unfold AI;rw[List.reverse_cons,List.dropWhile_append];by_cases h:r.reverse.dropWhile (·==48)=[]
 .simp only[h,List.isEmpty_nil,if_true,List.reverse_nil,List.dropWhile_cons,List.dropWhile_nil];grind
 grind
theorem G9(l:By):AS (AI l 48) 48=AI (AS l 48) 48:=by
 induction l with
 |nil=>rfl
 |cons a r ih=>
  by_cases ha:a=48
  .subst ha;have e1:AS (48::r) 48=AS r 48:=IF rfl;rw[e1,<-ih,IE];by_cases h:AI r 48=[]
   .grind
   .rw[if_neg h];rfl
  .have e1:AS (a::r) 48=a::r:=Gw ε;rw[e1,IE];by_cases h:AI r 48=[]
   .rw[if_pos h,if_neg ha];exact Gw ε
   .rw[if_neg h];exact Gw ε
theorem iN(l:By):l.take (dg l).length=dg l:=by
 induction l with
 |nil=>rfl
 |cons c r ih=>
  unfold dg;grind
theorem iO(l:By):l.drop (dg l).length=qP l:=by
 induction l with
 |nil=>rfl
 |cons c r ih=>
  unfold dg qP;grind
theorem AtX.dG(h:AtX t p l):AtX t (p+(dg l).length) (qP l):=by
 have:=h.add (dg l).length (by have:=Cw l;omega);rwa [iO]at this
theorem Jl(t:ByteArray)(p n:Nat):(t.extract p (p+n)).data.toList=(t.data.toList.drop p).take n:=by
 simp_all
theorem AtX.dgx(h:AtX t p l):(t.extract p (p+(dg l).length)).data.toList=dg l:=by
 rw[Jl,h.eq,iN]
theorem AtX.tail(h:AtX t p l)(hk:pQ l c=true):AtX t (p+1) l.tail:=by
 cases l with
 |nil=>cases hk
 |cons a r=>exact h.next
theorem Ac.via{w a b:AT}(h:Ac R w a)(k:Ac V a b)(hV:w.1.size<=V):Ac R w b:=
 ⟨k.os.trans h.os,k.tape.trans h.tape,k.output.trans h.output,Ã h.size k.size,λi hi hx=>(k.block i (Õ hi h.size) ζ).trans (h.block i hi hx)⟩
theorem Kb(l:By)(hd:∀c∈l,48<=c.toNat/\c.toNat<=57):∀n:Int,0<=n->n<=1000000000->0<=rX l n/\rX l n<=1000000000:=by
 induction l with
 |nil=>intro n h0 h1;exact⟨h0,h1⟩
 |cons c r ih=>
  intro n h0 h1;have:=hd c φ;exact ih ε _ ζ ζ
theorem fF(l:By):-1000000000<=tM l/\tM l<=1000000000:=by
 have h1:=Kb (dg l.tail.tail) (DX _) 0 ζ ζ;have h2:=Kb (dg l.tail) (DX _) 0 ζ ζ;unfold tM;omega
def D7(o:Option (Nm×By))(x:Int)(t:ByteArray)(R:Nat)(mo:Int)(tw far:Bool)(w:AT)(e:DA)(w':AT):Prop:=
 Ac R w w'/\((∃(n:Nm) (r:By) (V q:Nat) (ds:ByteArray),o=some (n,r)/\e=.returned (.tuple #[PtB V,InB q])/\AtX t q r/\w.1.size<=V/\ds.data.toList=n.2.1/\VN w' V n.1 ds x/\RB w' R t mo tw (far || (decide (x < -mo) || decide (mo<x))))\/
  (o=none/\e=.returned (.tuple #[.pointer none,InB 0])/\RB w' R t mo tw far))
theorem D7.fail{o:Option (Nm×By)}{x:Int}{w w1 W:AT}(h:o=none)(hr:RB w1 R t mo tw far)(q4:Ac R w w1)(hk:Ac V w1 W)(hV:w.1.size<=V)(q0:V≠R):
  D7 o x t R mo tw far w (.returned (.tuple #[.pointer none,InB 0])) W:=
 ⟨q4.via hk hV,À ⟨h,rfl,hr.kept hk (ň q0)⟩⟩
theorem VN.eq{w:AT}{ng:Bool}{ds:ByteArray}{x y:Int}(h:VN w V ng ds x)(e:x=y):VN w V ng ds y:=e▸h
theorem nP{ng:Bool}(h:(decide (dg l=[]) || (pQ l 48 && decide (1<(dg l).length)))=false)(hf:B5 (qP l)=none):BM ng l=none:=by
 unfold BM;grind
theorem OV{ng:Bool}{f:By}(h:(decide (dg l=[]) || (pQ l 48 && decide (1<(dg l).length)))=false)(hf:B5 (qP l)=some (f,r)):
  BM ng l=(AY r).map λx=>(Ce ng (dg l++f) (x.1-f.length),x.2):=by
 grind [BM,dg,AY]
theorem Cu(a b:ByteArray):(a++b).data.toList=a.data.toList++b.data.toList:=φ
theorem pC(ng:Bool)(ds:By)(e:Int):(Ce ng ds e).1=(if AS (AI ds 48) 48=[]then false else ng)/\(Ce ng ds e).2.1=AS (AI ds 48) 48:=by
 unfold Ce;simp only;rw[G9];grind
theorem KQ{w:AT}(hr:RB w R t mo tw far)(ha:AtX t p l)(yj:0<=mo/\mo<=400):
  C0 A5 127 #[PtB R,InB p] w λe w'=>D7 (rO l) (tN l) t R mo tw far w e w':=by
 obtain⟨w1,qw⟩:∃w1,w1=w.alloc (.cells #[.string ⟨#[110,117,109,98,101,114]⟩,.bool false,.string ⟨#[]⟩,InB 0,.string ⟨#[]⟩,.slice none 0 0,.slice none 0 0] 91):=⟨_,rfl⟩
 have zj:VN w1 w.1.size false ⟨#[]⟩ 0:=by rw[qw];exact Ax _ _ _ rfl
 have yc:RB w1 R t mo tw far:=by rw[qw];exact(Ä _ _ _ hr.lt).trans hr
 have y7:Ac R w w1:=by rw[qw];exact(Ac.refl R w).alloc _
 have qm:w.1.size≠R:=by have:=hr.lt;omega
 have zy:=Ab zj;have qt:=Ab yc;have qv:=Ab y7;have HA:=Ab ha;have hsz:=ha.small;have yt:=ha.le;have z1:=zj.fz 1;have c1:=zj.c1;clear hr zj yc y7 ha;go_enter func127,ntmps127;go_wp2_with fail;rw[<-qw];have yr:=Ab qw;clear qw;refine(Bx qt.u.rs HA.u 45 _ rfl).mono ?_;rintro e w' ⟨rfl,rfl⟩;go_upto_if 15 with(fail)
 go_cut [1] (λs1 wx=>∃(ng:Bool) (l':By) (p':Nat),s1=InB p'/\AtX t p' l'/\rO l=BM ng l'/\tN l=uS l'/\VN wx w.1.size ng ⟨#[]⟩ 0/\Ac w.1.size w' wx)
 case first=>
  cases hk:pQ l 45 with
  |true=>
   have HK:=Ab hk;have hlt:p<t.size:=by have:=(HA.u.tail hk).le;omega
   clear hk;go_wp2;go_meet;exact⟨true,l.tail,p+1,ψ,HA.u.tail HK.u,by unfold rO;rw[if_pos HK.u],by unfold tN;rw[if_pos HK.u],zy.u.set1 true,Ac.setCell (p:=⟨w.1.size,1,none⟩) (Ac.refl _ _) rfl _⟩
  |false=>
   have HK:=Ab hk;clear hk;go_wp2;go_meet;exact⟨false,l,p,rfl,HA.u,by unfold rO;rw[if_neg (by rw[HK.u];decide)],by unfold tN;rw[if_neg (by rw[HK.u];decide)],zy.u,Ac.refl _ _⟩
 case rest=>
 obtain⟨ng,l',p',rfl,zn,hn,hx,hv,hk⟩:=hcut;have HN:=Ab hn;have HX:=Ab hx;have HV:=Ab hv;have HK:=Ab hk;have ze:=Ab zn;have HR:=Ab (qt.u.kept hk (ň qm));have yk:=zn.le;clear hn hx hv hk zn z1 c1;go_wp2_with fail;refine(En HR.u.rs ze.u).mono ?_;rintro e w2⟨rfl,rfl⟩;obtain⟨q,hq⟩:∃q,q=p'+(dg l').length:=⟨_,rfl⟩
 rw[<-hq];have zi:=ze.u.dG;have hex:=ze.u.dgx;rw[<-hq]at zi hex;have yv:=zi.le;have zl:=Ab zi;have zx:=Ab hex;have HQ:=Ab hq;have yu:p'<=q:=ζ;clear zi hex hq;go_upto_region 6 with(fail)
 go_cut [37] (λyo wx=>yo=.bool (decide (dg l'=[]) || (pQ l' 48 && decide (1<(dg l').length)))/\wx=w2)
 case first=>
  by_cases h0:dg l'=[]
  .have e0:((q:Int)==(p':Int))=true:=by have:=HQ.u;rw[this,h0];exact beq_self_eq_true _
   have HB:=Ab (show(decide (dg l'=[]) || (pQ l' 48 && decide (1<(dg l').length)))=true by rw[decide_eq_true h0];rfl);clear h0;go_wp2;go_meet;exact⟨by rw[HB.u],rfl⟩
  .have hne:0<(dg l').length:=Ē.2 h0;have e0:((q:Int)==(p':Int))=false:=by
    rw[beq_eq_false_iff_ne];intro h;have:=B4 h;have:=HQ.u;omega
   have HB:=Ab (show(decide (dg l'=[]) || (pQ l' 48 && decide (1<(dg l').length)))=(pQ l' 48 && decide (1<(dg l').length)) by rw[decide_eq_false h0];rfl);clear h0;go_wp2_with fail;refine(Bx HR.u.rs ze.u 48 _ rfl).mono ?_;rintro e w3⟨rfl,rfl⟩;cases hk:pQ l' 48 with
   |false=>
    have q6:=Ab hk;clear hk;go_wp2;go_meet;exact⟨by rw[HB.u,q6.u];rfl,rfl⟩
   |true=>
    have q6:=Ab hk;clear hk;by_cases h1:1<(dg l').length
    .have e1:decide ((p':Int)+1<(q:Int))=true:=by have:=HQ.u;exact decide_eq_true ζ
     have H1:=Ab h1;clear h1;go_wp2;go_meet;exact⟨by rw[HB.u,q6.u,decide_eq_true H1.u];rfl,rfl⟩
    .have e1:decide ((p':Int)+1<(q:Int))=false:=by have:=HQ.u;exact decide_eq_false ζ
     have H1:=Ab h1;clear h1;go_wp2;go_meet;exact⟨by rw[HB.u,q6.u,decide_eq_false H1.u];rfl,rfl⟩
 case rest=>
 obtain⟨rfl,rfl⟩:=hcut;cases hb:(decide (dg l'=[]) || (pQ l' 48 && decide (1<(dg l').length)))with
 |true=>
  have HB:=Ab hb;clear hb;go_wp2;go_ret2;exact D7.fail (by rw[HN.u];unfold BM;rw[if_pos HB.u]) qt.u qv.u HK.u (Á _) qm
 |false=>
 have z0:=Ab hb;have yd:=HR.u.rs;unfold RS at yd;clear hb;go_wp2_with fail;refine(Bx HR.u.rs zl.u 46 _ rfl).mono ?_;rintro e w3⟨rfl,rfl⟩;have c3:=HV.u.c3;have z3:=HV.u.fz 3;go_upto_if 48 with(fail)
 go_cut [1,7,8] (λs1 s7 s8 wx=>∃(f r1:By) (q1:Nat) (al:ByteArray),s1=InB q1/\s8=.string al/\B5 (qP l')=some (f,r1)/\AtX t q1 r1/\al.data.toList=dg l'++f/\f.length<=8796093022208/\VN wx w.1.size ng ⟨#[]⟩ (-(f.length:Int))/\Ac w.1.size w3 wx)
 case first=>
  cases hk:pQ (qP l') 46 with
  |false=>
   have q6:=Ab hk;clear hk;go_wp2;go_meet;exact⟨[],qP l',q,t.extract p' q,rfl,rfl,by unfold B5;rw[if_neg (by rw[q6.u];decide)],zl.u,by rw[zx.u];simp,φ,HV.u,Ac.refl _ _⟩
  |true=>
   have qg:=zl.u.tail hk;have q6:=Ab hk;have q7:=Ab qg;have zr:=qg.le;clear hk qg;go_wp2_with fail;refine(En HR.u.rs q7.u).mono ?_;rintro e w4⟨rfl,rfl⟩;obtain⟨q2,zb⟩:∃q2,q2=q+1+(dg (qP l').tail).length:=⟨_,rfl⟩
   rw[<-zb];have qb:=q7.u.dG;have qi:=q7.u.dgx;rw[<-zb]at qb qi;have ym:=qb.le;have q5:=Ab qb;have qq:=Ab qi;clear qb qi;by_cases hd:dg (qP l').tail=[]
   .have e0:((q2:Int)==(q:Int)+1)=true:=by rw[zb,hd];simp
    have HF:=Ab (show B5 (qP l')=none by unfold B5;rw[if_pos q6.u,if_pos hd]);clear hd zb;go_wp2;go_ret2;exact D7.fail (by rw[HN.u];exact nP z0.u HF.u) qt.u qv.u HK.u (Á _) qm
   .have hne:0<(dg (qP l').tail).length:=Ē.2 hd;have e0:((q2:Int)==(q:Int)+1)=false:=by rw[beq_eq_false_iff_ne];omega
    have HF:=Ab (show B5 (qP l')=some (dg (qP l').tail,qP (qP l').tail) by unfold B5;rw[if_pos q6.u,if_neg hd]);have yf:=Ab (show -((q2:Int)-(q:Int)-1) = -(((dg (qP l').tail).length:Nat):Int)from ζ);have yi:q+1<=q2:=ζ;have yx:(t.extract p' q).size<=8796093022208:=by rw[Į];omega
    have hs2:(t.extract (q+1) q2).size<=8796093022208:=by rw[Į];omega
    have zz:(dg (qP l').tail).length<=8796093022208:=ζ;clear hd zb hne;go_wp2;go_meet;exact⟨_,_,q2,t.extract p' q++t.extract (q+1) q2,rfl,rfl,HF.u,q5.u,by rw[Cu,zx.u,qq.u],zz,VN.eq (HV.u.set3 _) yf.u,Ac.setCell (p:=⟨w.1.size,3,none⟩) (Ac.refl _ _) rfl _⟩
 case rest=>
 obtain⟨f,r1,q1,al,rfl,rfl,y4,qg,hal,zz,zk,hk2⟩:=hcut;have qz:=Ab y4;have q7:=Ab qg;have zf:=Ab hal;have zh:=Ab zk;have zg:=Ab hk2;have qk:=Ab (HR.u.kept hk2 (ň qm));have ye:=qk.u.rs;unfold RS at ye;have zr:=qg.le;have d3:=zk.c3;have y3:=zk.fz 3;clear y4 qg hal zk hk2 c3 z3 yd;go_upto_region 17 with(fail)
 go_cut [83] (λyp wx=>yp=.bool (pQ r1 101 || pQ r1 69)/\wx=wc)
 case first=>
  go_wp2_with fail;refine(Bx qk.u.rs q7.u 101 _ rfl).mono ?_;rintro e w4⟨rfl,rfl⟩;cases hk:pQ r1 101 with
  |true=>
   go_wp2;go_meet;exact⟨by rw[hk];rfl,rfl⟩
  |false=>
   go_wp2_with fail;refine(Bx qk.u.rs q7.u 69 _ rfl).mono ?_;rintro e w5⟨rfl,rfl⟩;go_wp2;go_meet;exact⟨by rw[hk];rfl,rfl⟩
 case rest=>
 obtain⟨rfl,rfl⟩:=hcut;go_upto_if 83 with(fail)
 go_cut [1,7,9,10] (λs1 s7 s9 yy wx=>∃(ev:Int) (r2:By) (q3:Nat),s1=InB q3/\AY r1=some (ev,r2)/\AtX t q3 r2/\VN wx w.1.size ng ⟨#[]⟩ (tM r1-(f.length:Int))/\Ac w.1.size wc wx)
 case first=>
  cases hb:(pQ r1 101 || pQ r1 69)with
  |false=>
   have HB:=Ab hb;clear hb;go_wp2;go_meet;exact⟨0,r1,q1,rfl,by unfold AY;rw[HB.u];rfl,q7.u,VN.eq zh.u (by unfold tM;rw[HB.u];simp),Ac.refl _ _⟩
  |true=>
   have HB:=Ab hb;have qb:AtX t (q1+1) r1.tail:=by
    rcases Ķ _ _▸hb with h|h
    .exact q7.u.tail h
    .exact q7.u.tail h
   have q5:=Ab qb;have yl:=qb.le;clear hb qb;go_wp2_with fail;refine(Bx qk.u.rs q5.u 45 _ rfl).mono ?_;rintro e w4⟨rfl,rfl⟩;cases hk:pQ r1.tail 45 with
   |true=>
    have qh:=q5.u.tail hk;have zt:=qh.le;have q8:=Ab qh;have q6:=Ab hk;have qd:((q1+1+1:Nat):Int)=(q1:Int)+1+1:=ζ;clear hk qh;go_wp2_with fail;refine(En qk.u.rs q8.u).mono ?_;rintro e w6⟨rfl,rfl⟩;obtain⟨q3,qe⟩:∃q3,q3=(q1+1+1)+(dg r1.tail.tail).length:=⟨_,rfl⟩
    rw[<-qe];have q0:=q8.u.dG;have q4:=q8.u.dgx;rw[<-qe]at q0 q4;have zc:=q0.le;have yb:=q8.u.le;have qf:=Ab q0;have q9:=Ab q4;clear q0 q4;by_cases hd:dg r1.tail.tail=[]
    .have za:q3=(q1+1+1):=by rw[qe,hd];rfl
     have e0:((q3:Int)==((q1+1+1):Nat))=true:=by rw[za];exact beq_self_eq_true _
     have hE:AY r1=none:=by unfold AY;rw[if_pos HB.u,if_pos q6.u];rw[if_pos hd]
     have HE:=Ab hE;rw[qd]at e0;clear hE hd qe;go_wp2;go_ret2;exact D7.fail (by rw[HN.u,OV z0.u qz.u,HE.u];rfl) qt.u qv.u (HK.u.trans zg.u) (Á _) qm
    .have hne:0<(dg r1.tail.tail).length:=Ē.2 hd;have e0:((q3:Int)==((q1+1+1):Nat))=false:=by rw[beq_eq_false_iff_ne];intro h;have:q3=(q1+1+1):=B4 h;omega
     have z7:(q1+1+1)<=q3:=ζ;have hE:AY r1=some (-(Bg (dg r1.tail.tail) 0),qP r1.tail.tail):=by unfold AY;rw[if_pos HB.u,if_pos q6.u];rw[if_neg hd]
     have qj:tM r1 = -(rX (dg r1.tail.tail) 0):=by unfold tM;rw[if_pos HB.u,if_pos q6.u]
     have qn:=Kb (dg r1.tail.tail) (DX _) 0 ζ ζ;obtain⟨g,hg⟩:∃g,g=rX (dg r1.tail.tail) 0:=⟨_,rfl⟩
     rw[<-hg]at qj qn;obtain⟨y5,y6⟩:=qn;have HG:=Ab (show rX (t.extract (q1+1+1) q3).data.toList 0=g by rw[q9.u,hg]);have qo:(t.extract (q1+1+1) q3).size<=8796093022208:=by rw[Į];omega
     have qy:=Ab (show∀c∈(t.extract (q1+1+1) q3).data.toList,qW c=true by rw[q9.u];intro c hc;exact(CI c).2 (DX _ c hc));have z4:=Ab qo;have HE:=Ab hE;have z2:=Ab qj;rw[qd]at e0;clear hE qj hd qe hne hg qo;go_wp2_with fail;refine(Fz (t.extract (q1+1+1) q3) z4.u qy.u _).mono ?_;rintro e w7⟨rfl,rfl⟩;rw[HG.u];go_wp2;go_meet;exact⟨_,_,q3,rfl,HE.u,qf.u,by rw[z2.u];exact VN.eq (zh.u.set3 _) ζ,Ac.setCell (p:=⟨w.1.size,3,none⟩) (Ac.refl _ _) rfl _⟩
   |false=>
    have q6:=Ab hk;clear hk;go_wp2_with fail;refine(Bx qk.u.rs q5.u 43 _ rfl).mono ?_;rintro e w5⟨rfl,rfl⟩;cases hk:pQ r1.tail 43 with
    |true=>
     have qh:=q5.u.tail hk;have zt:=qh.le;have q8:=Ab qh;have qr:=Ab hk;have qd:((q1+1+1:Nat):Int)=(q1:Int)+1+1:=ζ;clear hk qh;go_wp2_with fail;refine(En qk.u.rs q8.u).mono ?_;rintro e w6⟨rfl,rfl⟩;obtain⟨q3,qe⟩:∃q3,q3=(q1+1+1)+(dg r1.tail.tail).length:=⟨_,rfl⟩
     rw[<-qe];have q0:=q8.u.dG;have q4:=q8.u.dgx;rw[<-qe]at q0 q4;have zc:=q0.le;have yb:=q8.u.le;have qf:=Ab q0;have q9:=Ab q4;clear q0 q4;by_cases hd:dg r1.tail.tail=[]
     .have za:q3=(q1+1+1):=by rw[qe,hd];rfl
      have e0:((q3:Int)==((q1+1+1):Nat))=true:=by rw[za];exact beq_self_eq_true _
      have hE:AY r1=none:=by unfold AY;rw[if_pos HB.u,if_neg (by rw[q6.u];decide),if_pos qr.u];rw[if_pos hd]
      have HE:=Ab hE;rw[qd]at e0;clear hE hd qe;go_wp2;go_ret2;exact D7.fail (by rw[HN.u,OV z0.u qz.u,HE.u];rfl) qt.u qv.u (HK.u.trans zg.u) (Á _) qm
     .have hne:0<(dg r1.tail.tail).length:=Ē.2 hd;have e0:((q3:Int)==((q1+1+1):Nat))=false:=by rw[beq_eq_false_iff_ne];intro h;have:q3=(q1+1+1):=B4 h;omega
      have z7:(q1+1+1)<=q3:=ζ;have hE:AY r1=some ((Bg (dg r1.tail.tail) 0),qP r1.tail.tail):=by unfold AY;rw[if_pos HB.u,if_neg (by rw[q6.u];decide),if_pos qr.u];rw[if_neg hd]
      have qj:tM r1=(rX (dg r1.tail.tail) 0):=by unfold tM;rw[if_pos HB.u,if_neg (by rw[q6.u];decide),if_pos qr.u]
      have qn:=Kb (dg r1.tail.tail) (DX _) 0 ζ ζ;obtain⟨g,hg⟩:∃g,g=rX (dg r1.tail.tail) 0:=⟨_,rfl⟩
      rw[<-hg]at qj qn;obtain⟨y5,y6⟩:=qn;have HG:=Ab (show rX (t.extract (q1+1+1) q3).data.toList 0=g by rw[q9.u,hg]);have qo:(t.extract (q1+1+1) q3).size<=8796093022208:=by rw[Į];omega
      have qy:=Ab (show∀c∈(t.extract (q1+1+1) q3).data.toList,qW c=true by rw[q9.u];intro c hc;exact(CI c).2 (DX _ c hc));have z4:=Ab qo;have HE:=Ab hE;have z2:=Ab qj;rw[qd]at e0;clear hE qj hd qe hne hg qo;go_wp2_with fail;refine(Fz (t.extract (q1+1+1) q3) z4.u qy.u _).mono ?_;rintro e w7⟨rfl,rfl⟩;rw[HG.u];go_wp2;go_meet;exact⟨_,_,q3,rfl,HE.u,qf.u,by rw[z2.u];exact VN.eq (zh.u.set3 _) ζ,Ac.setCell (p:=⟨w.1.size,3,none⟩) (Ac.refl _ _) rfl _⟩
    |false=>
     have qr:=Ab hk;have qd:((q1+1:Nat):Int)=(q1:Int)+1:=ζ;clear hk;go_wp2_with fail;refine(En qk.u.rs q5.u).mono ?_;rintro e w6⟨rfl,rfl⟩;obtain⟨q3,qe⟩:∃q3,q3=(q1+1)+(dg r1.tail).length:=⟨_,rfl⟩
     rw[<-qe];have q0:=q5.u.dG;have q4:=q5.u.dgx;rw[<-qe]at q0 q4;have zc:=q0.le;have yb:=q5.u.le;have qf:=Ab q0;have q9:=Ab q4;clear q0 q4;by_cases hd:dg r1.tail=[]
     .have za:q3=(q1+1):=by rw[qe,hd];rfl
      have e0:((q3:Int)==((q1+1):Nat))=true:=by rw[za];exact beq_self_eq_true _
      have hE:AY r1=none:=by unfold AY;rw[if_pos HB.u,if_neg (by rw[q6.u];decide),if_neg (by rw[qr.u];decide)];rw[if_pos hd]
      have HE:=Ab hE;rw[qd]at e0;clear hE hd qe;go_wp2;go_ret2;exact D7.fail (by rw[HN.u,OV z0.u qz.u,HE.u];rfl) qt.u qv.u (HK.u.trans zg.u) (Á _) qm
     .have hne:0<(dg r1.tail).length:=Ē.2 hd;have e0:((q3:Int)==((q1+1):Nat))=false:=by rw[beq_eq_false_iff_ne];intro h;have:q3=(q1+1):=B4 h;omega
      have z7:(q1+1)<=q3:=ζ;have hE:AY r1=some ((Bg (dg r1.tail) 0),qP r1.tail):=by unfold AY;rw[if_pos HB.u,if_neg (by rw[q6.u];decide),if_neg (by rw[qr.u];decide)];rw[if_neg hd]
      have qj:tM r1=(rX (dg r1.tail) 0):=by unfold tM;rw[if_pos HB.u,if_neg (by rw[q6.u];decide),if_neg (by rw[qr.u];decide)]
      have qn:=Kb (dg r1.tail) (DX _) 0 ζ ζ;obtain⟨g,hg⟩:∃g,g=rX (dg r1.tail) 0:=⟨_,rfl⟩
      rw[<-hg]at qj qn;obtain⟨y5,y6⟩:=qn;have HG:=Ab (show rX (t.extract (q1+1) q3).data.toList 0=g by rw[q9.u,hg]);have qo:(t.extract (q1+1) q3).size<=8796093022208:=by rw[Į];omega
      have qy:=Ab (show∀c∈(t.extract (q1+1) q3).data.toList,qW c=true by rw[q9.u];intro c hc;exact(CI c).2 (DX _ c hc));have z4:=Ab qo;have HE:=Ab hE;have z2:=Ab qj;rw[qd]at e0;clear hE qj hd qe hne hg qo;go_wp2_with fail;refine(Fz (t.extract (q1+1) q3) z4.u qy.u _).mono ?_;rintro e w7⟨rfl,rfl⟩;rw[HG.u];go_wp2;go_meet;exact⟨_,_,q3,rfl,HE.u,qf.u,by rw[z2.u];exact VN.eq (zh.u.set3 _) ζ,Ac.setCell (p:=⟨w.1.size,3,none⟩) (Ac.refl _ _) rfl _⟩
 case rest=>
 obtain⟨ev,r2,q3,rfl,qi,q0,zv,zo⟩:=hcut;have qq:=Ab qi;have qf:=Ab q0;have yq:=Ab zv;have yg:=Ab zo;have yh:=Ab (qk.u.kept zo (ň qm));have yw:=fF r1;have z5:=Ab (V0 (all:=al) zv yh.u qm (by rw[Ė,zf.u,Ñ];have:=HQ.u;omega) ζ yj);clear qi q0 zv zo ye d3 y3;go_wp2_with fail;refine z5.u.mono ?_;rintro e w9⟨rfl,W,ds,yn,x,hds,hx,ya,y9,zw,zu,y8⟩;have zq:=pC ng (dg l'++f) (ev-f.length);have z9:rO l=some (Ce ng (dg l'++f) (ev-f.length),r2):=by rw[HN.u,OV z0.u qz.u,qq.u];rfl
 have qu:x=tN l:=by rw[hx,HX.u,zf.u];unfold uS;rw[qz.u]
 have z8:yn=(Ce ng (dg l'++f) (ev-f.length)).1:=by rw[ya,zq.1,hds,zf.u]
 have z6:ds.data.toList=(Ce ng (dg l'++f) (ev-f.length)).2.1:=by rw[hds,zq.2,zf.u]
 rw[qu,z8]at zw;rw[qu]at zu;have zm:=Ab (show D7 (rO l) (tN l) t R mo tw far w (.returned (.tuple #[.pointer (some ⟨w.1.size,0,none⟩),InB q3])) w9 from
  ⟨(qv.u.via (((HK.u.trans zg.u).trans yg.u).trans y9) (Á _)).trans y8,Å ⟨_,r2,w.1.size,q3,ds,z9,rfl,qf.u,Á _,z6,zw,zu⟩⟩)
 clear hds hx ya y9 zw zu y8 zq z9 qu z8 z6;go_wp2;go_ret2;exact zm.u
def sA(mo:Int):Nat->O->Bool
 |0,_=>false
 |f+1,d=>match d with
  |.agg [.lit (.bool _),.lit (.string _),.lit (.int _ _),.lit (.int _ x)]=>decide (x < -mo) || decide (mo<x)
  |.slice es _=>es.any (sA mo f)
  |.map es=>es.any (λp=>sA mo f p.2)
  |_=>false
def OB(w:AT)(b:Nat)(k:By)(ng:Bool)(ds:By)(x:Int)(s:By)(ks vs:A4):Prop:=
 w.1[b]?=some (.cells #[.string ⟨k.toArray⟩,.bool ng,.string ⟨ds.toArray⟩,InB x,.string ⟨s.toArray⟩,ks,vs] 91 (0,0))
def vC:By:=[110,117,109,98,101,114]
def vJ:By:=[115,116,114,105,110,103]
def sW:By:=[97,114,114,97,121]
def sC:By:=[111,98,106,101,99,116]
abbrev AE:A4:=.slice none 0 0
def AG(s:By):A4:=.string ⟨s.toArray⟩
section
variable{w:AT}{b:Nat}{k:By}{ng:Bool}{ds:By}{x:Int}{s:By}{ks vs:A4}
theorem OB.lt(h:OB w b k ng ds x s ks vs):b<w.1.size:=(È.1 h).1
theorem OB.c0(h:OB w b k ng ds x s ks vs):CeB w b 0=some (.string ⟨k.toArray⟩):=ck h
theorem OB.c1(h:OB w b k ng ds x s ks vs):CeB w b 1=some (.bool ng):=ck h
theorem OB.c2(h:OB w b k ng ds x s ks vs):CeB w b 2=some (.string ⟨ds.toArray⟩):=ck h
theorem OB.c3(h:OB w b k ng ds x s ks vs):CeB w b 3=some (InB x):=ck h
theorem OB.c4(h:OB w b k ng ds x s ks vs):CeB w b 4=some (.string ⟨s.toArray⟩):=ck h
theorem OB.c5(h:OB w b k ng ds x s ks vs):CeB w b 5=some ks:=ck h
theorem OB.c6(h:OB w b k ng ds x s ks vs):CeB w b 6=some vs:=ck h
theorem OB.fz(h:OB w b k ng ds x s ks vs)(o:Nat):w.frozen? ⟨b,o,none⟩=false:=fk h
theorem OB.kept(h:OB w b k ng ds x s ks vs)(hk:w'.1[b]?=w.1[b]?):OB w' b k ng ds x s ks vs:=hk.trans h
theorem OB.set5(h:OB w b k ng ds x s ks vs)(u:A4):OB (w.setCell ⟨b,5,none⟩ u) b k ng ds x s u vs:=by unfold OB at h |-;rw[BX h];rfl
theorem OB.set6(h:OB w b k ng ds x s ks vs)(u:A4):OB (w.setCell ⟨b,6,none⟩ u) b k ng ds x s ks u:=by unfold OB at h |-;rw[BX h];rfl
end
theorem VN.ob{w:AT}{ng:Bool}{ds:ByteArray}{x:Int}(h:VN w V ng ds x)(e:ds.data.toList=l):OB w V vC ng l x [] AE AE:=by
 have:ds=⟨l.toArray⟩:=by rw[<-e,Ě]
 subst this;exact h
def Ar:Nat->(Nat->Prop)->AT->A4->O->Prop
 |0,_,_,_,_=>False
 |f+1,F,w,v,o=>∃b,v=PtB b/\F b/\
  ((∃k:Nat,k<3/\o=tL k/\OB w b (rE.getD k []) false [] 0 [] AE AE)\/
   (∃n x,o=tB n x/\OB w b vC n.1 n.2.1 x [] AE AE)\/
   (∃s,o=uA s/\OB w b vJ false [] 0 s AE AE)\/
   (∃es sl ps,o=rK es/\OB w b sW false [] 0 [] AE sl/\w.ownsRow 0 66 1 sl ps.length ps/\(∀g,sl.ownBlock=some g->F g)/\Al (Ar f F w) ps es)\/
   (∃(es:Ms) (kl sl:A4) (ps:List A4),o=qF es/\OB w b sC false [] 0 [] kl sl/\w.ownsRow 0 9 1 kl es.length (es.map λp=>AG p.1)/\(∀g,kl.ownBlock=some g->F g)/\
    w.ownsRow 0 66 1 sl ps.length ps/\(∀g,sl.ownBlock=some g->F g)/\Al (Ar f F w) ps (es.map (·.2))))
theorem Ar.move{F F':Nat->Prop}{w:AT}(hF:∀k,F k->k<w.1.size->w'.1[k]?=w.1[k]?/\F' k):∀{f:Nat}{v:A4}{o:O},Ar f F w v o->Ar f F' w' v o:=by
 intro f;induction f with
 |zero=>intro v o h;exact h
 |succ f ih=>
  intro v o h;obtain⟨b,hv,hb,h⟩:=h;rcases h with⟨k,hk,hd,h⟩|⟨n,x,hd,h⟩|⟨s,hd,h⟩|⟨es,sl,ps,hd,h,ho,hs,ha⟩|⟨es,kl,sl,ps,hd,h,ho,hs,ho2,hs2,ha⟩
  .have g:=hF b hb h.lt;exact⟨b,hv,g.2,Å ⟨k,hk,hd,h.kept g.1⟩⟩
  .have g:=hF b hb h.lt;exact⟨b,hv,g.2,À (Å ⟨n,x,hd,h.kept g.1⟩)⟩
  .have g:=hF b hb h.lt;exact⟨b,hv,g.2,À (À (Å ⟨s,hd,h.kept g.1⟩))⟩
  .have g:=hF b hb h.lt;exact⟨b,hv,g.2,À (À (À (Å ⟨es,sl,ps,hd,h.kept g.1,Am ho (λg' hg=>(hF g' (hs g' hg) (Af ho g' hg).1).1),λg' hg=>(hF g' (hs g' hg) (Af ho g' hg).1).2,ha.mono (λ_ _=>ih)⟩)))⟩
  .have g:=hF b hb h.lt;exact⟨b,hv,g.2,À (À (À (À ⟨es,kl,sl,ps,hd,h.kept g.1,Am ho (λg' hg=>(hF g' (hs g' hg) (Af ho g' hg).1).1),λg' hg=>(hF g' (hs g' hg) (Af ho g' hg).1).2,
    Am ho2 (λg' hg=>(hF g' (hs2 g' hg) (Af ho2 g' hg).1).1),λg' hg=>(hF g' (hs2 g' hg) (Af ho2 g' hg).1).2,ha.mono (λ_ _=>ih)⟩)))⟩
theorem Ar.ptr{F:Nat->Prop}{w:AT}{v:A4}{o:O}(h:Ar f F w v o):∃b,v=PtB b/\b<w.1.size/\F b:=by
 cases f with
 |zero=>exact h.elim
 |succ f=>
  obtain⟨b,hv,hb,h⟩:=h;refine⟨b,hv,?_,hb⟩;rcases h with⟨k,hk,hd,h⟩|⟨n,x,hd,h⟩|⟨s,hd,h⟩|⟨es,sl,ps,hd,h,ho,hs,ha⟩|⟨es,kl,sl,ps,hd,h,ho,hs,ho2,hs2,ha⟩;all_goals exact h.lt
theorem L7:(Tryz.prog.info? 66).map (λi=>(i.zero,i.size,i.bytes))=some (some (.pointer none),1,8):=δ
theorem OU:(Tryz.prog.info? 9).map (λi=>(i.zero,i.size,i.bytes))=some (some (.string ⟨#[]⟩),1,16):=δ
theorem DS{w:AT}{B e:Nat}{v:A4}{xs:List A4}(h:w.ownsRow B e 1 v n xs)(hpos:0<n):∃g cap,v=SlB g n cap/\n<=cap/\cap<=DD/\g<w.1.size/\∀k (hk:k<xs.length),CeB w g k=some xs[k]:=by
 obtain⟨q0,h⟩:=h;rcases h with⟨_,h0⟩|⟨g,cap,cur,h1,_,h3,h4,h5,h6,h7⟩
 .omega
 .refine⟨g,cap,h1,h4,h5,ε,λk hk=>?_⟩;have q4:k<cur.size:=ζ;have e:CeB w g k=cur[k]?:=by simp[B3,h3]
  grind
def tS(k:By):List By->List A4->A4
 |a::r,p::q=>if a=k then p else tS k r q
 |_,_=>.pointer none
theorem Xc{k:By}{ks:List By}{j:Nat}(h1:j<ks.length)(h2:j<ps.length):tS k (ks.drop j) (ps.drop j)=if ks[j]=k then ps[j]else tS k (ks.drop (j+1)) (ps.drop (j+1)):=by
 rw[Û h1,Û h2];rfl
theorem IO{w:AT}{b B1 B2:Nat}{kd:By}{ng:Bool}{ds:By}{x:Int}{s:By}{kl:A4}{ks:List By}(h:OB w b kd ng ds x s kl sl)(hk:w.ownsRow B1 9 1 kl ks.length (ks.map AG))(hv:w.ownsRow B2 66 1 sl ps.length ps)(hl:ps.length=ks.length)(key:By):
  C0 A5 95 #[PtB b,.string ⟨key.toArray⟩] w λe w'=>e=.returned (tS key ks ps)/\w'=w:=by
 have c5:=h.c5;have c6:=h.c6;obtain⟨n,hn⟩:∃n,n=ks.length:=⟨_,rfl⟩
 by_cases h0:n=0
 .have qe:ks=[]:=ê ζ;subst qe;have hz:∃a c,kl=.slice a 0 c:=by
   rcases hk.2 with⟨e,_⟩|⟨g,cap,cur,e,_⟩
   .exact⟨none,0,e⟩
   .exact⟨_,cap,e⟩
  obtain⟨a,c,rfl⟩:=hz;clear h hk hv hl hn h0;go_enter func95,ntmps95;go_wp2_with fail;refine ø 1 ?_;rw[ď];go_wp2;go_ret;exact⟨rfl,rfl⟩
 .obtain⟨g1,p1,e1,a1,b1,l1,q5⟩:=DS hk ζ;obtain⟨g2,p2,e2,a2,b2,l2,q6⟩:=DS hv ζ;subst e1 e2;rw[hl,<-hn]at c6;rw[<-hn]at c5;have qg:(n:Int)<=9223372036854775807:=by unfold DD at b1;omega
  have HN:=Ab hn;have HL:=Ab hl;have qh:n<=p1:=ζ;have qf:n<=p2:=ζ;have q9:=Ab q5;have qb:=Ab q6;clear h hk hv hn hl h0 q5 q6;go_enter func95,ntmps95;go_wp2;go_loopw [5] (λi wr=>∃j:Nat,j<=n/\i=InB j/\tS key ks ps=tS key (ks.drop j) (ps.drop j)/\wr=w) (λi _=>n-(BY i).toNat)
  case atStart=>exact⟨0,ζ,rfl,rfl,rfl⟩
  case round=>
   obtain⟨j,hj,rfl,he,rfl⟩:=hrel;have HE:=Ab he;clear he;by_cases hlt:j<n
   .have q7:j<ks.length:=by have:=HN.u;omega
    have q8:j<ps.length:=by have:=HN.u;have:=HL.u;omega
    have q1:=q9.u j (by simpa using q7);have q2:=qb.u j q8;have q4:=Ab (Xc (k:=key) q7 q8);rw[é]at q1;unfold AG at q1;by_cases q0:ks[j]=key
    .rw[q0]at q1;have HK:=Ab q0;clear q0;go_wp2;go_ret;exact⟨by rw[HE.u,q4.u,if_pos HK.u];rfl,rfl⟩
    .have HK:=Ab q0;have e1:(ks[j]==key)=false:=beq_eq_false_iff_ne.2 q0;clear q0;go_wp2;exact⟨⟨j+1,ζ,ψ,by rw[HE.u,q4.u,if_neg HK.u],trivial⟩,by simp only[BY];omega⟩
   .go_wp2;go_ret;have qd:j=ks.length:=by have:=HN.u;omega
    exact⟨by rw[HE.u,qd,List.drop_length];cases ps.drop ks.length<;>rfl,rfl⟩
def B8(o:Option (O×By))(f:Nat)(t:ByteArray)(R:Nat)(mo:Int)(tw far:Bool)(w:AT)(e:DA)(w':AT):Prop:=
 Ac R w w'/\((∃(d:O) (r:By) (V q:Nat),o=some (d,r)/\e=.returned (.tuple #[PtB V,InB q])/\AtX t q r/\Ar f (λk=>w.1.size<=k) w' (PtB V) d/\RB w' R t mo (tw || rR f d) (far || sA mo f d))\/
  (o=none/\e=.returned (.tuple #[.pointer none,InB 0])/\∃q4 q0,RB w' R t mo q4 q0))
def QO(f:Nat):Prop:=∀(R:Nat) (t:ByteArray) (mo:Int) (tw far:Bool) (p:Nat) (l:By) (w:AT),RB w R t mo tw far->AtX t p l->0<=mo/\mo<=400->l.length<f ->
 C0 A5 91 #[PtB R,InB p] w λe w'=>B8 (pX f l) f t R mo tw far w e w'
structure MF(f R:Nat)(t:ByteArray)(mo:Int)(tw far:Bool)(w0 w:AT)(es:List O):Prop where
 rb:RB w R t mo (tw || es.any (rR f)) (far || es.any (sA mo f))
 kept:Ac R w0 w
 sz:w0.1.size+1<=w.1.size
 el:∃sl ps,OB w w0.1.size sW false [] 0 [] AE sl/\w.ownsRow (w0.1.size+1) 66 1 sl ps.length ps/\Al (Ar f (λk=>w0.1.size+1<=k/\sl.ownBlock≠some k) w) ps es
theorem RB.blk{w:AT}(h:RB w R t mo tw far)(e:w'.1[R]?=w.1[R]?):RB w' R t mo tw far:=e.trans h
theorem Zf{qf q6:Bool}{w w2 w3:AT}{es:List O}{d:O}(hR:R<w0.1.size)(q7:Ac R w0 w)(hsz:w0.1.size+1<=w.1.size)(hk2:Ac R w w2)(qh:RB w2 R t mo qf q6)(htw:qf=(tw || (es++[d]).any (rR f)))(q9:q6=(far || (es++[d]).any (sA mo f)))(hob:OB w w0.1.size sW false [] 0 [] AE sl)(q8:w.ownsRow (w0.1.size+1) 66 1 sl ps.length ps)(hal:Al (Ar f (λk=>w0.1.size+1<=k/\sl.ownBlock≠some k) w) ps es){p:Option Addr}{o:Obj}{g cap:Nat}(q4:w3.ownsRow (w0.1.size+1) 66 1 (SlB g (ps.length+1) cap) (ps.length+1) (ps++[.pointer p]))(q0:(w2.alloc o).grownBy w3 sl.ownBlock)(qe:sl.ownBlock=some g\/g=w2.1.size+1)(qd:Ar f (λk=>w.1.size<=k) w2 (.pointer p) d):
  MF f R t mo tw far w0 (w3.setCell ⟨w0.1.size,6,none⟩ (SlB g (ps.length+1) cap)) (es++[d]):=by
 have hs2:=hk2.size;have gs:=q0.size;have qi:(w2.alloc o).1.size=w2.1.size+1:=φ;have k3:∀k,k<w2.1.size->some k≠sl.ownBlock->w3.1[k]?=w2.1[k]?:=λk h1 h2=>(q0.block k ζ h2).trans (Ä w2 o k h1);have q5:∀k,k<w0.1.size+1->some k≠sl.ownBlock:=λk hk h=>by have:=(Af q8 k h.symm).2;omega
 have k4:∀k,k<w2.1.size->some k≠sl.ownBlock->k≠w0.1.size->(w3.setCell ⟨w0.1.size,6,none⟩ (SlB g (ps.length+1) cap)).1[k]?=w2.1[k]?:=λk h1 h2 h3=>(Æ _ _ _ _ h3).trans (k3 k h1 h2);have hg:w0.1.size+1<=g:=(Af q4 g rfl).2;have kx:Ac R w0 (w3.setCell ⟨w0.1.size,6,none⟩ (SlB g (ps.length+1) cap)):=by
  have hk:=q7.trans hk2;refine⟨q0.os.trans hk.os,q0.tape.trans hk.tape,q0.output.trans hk.output,?_,?_⟩
  .have:=hk.size;simp[A3];omega
  .intro k h1 h2;exact(k4 k (by have:=hk.size;omega) (q5 k ζ) ζ).trans (hk.block k h1 h2)
 refine⟨?_,kx,by simp[A3];omega,SlB g (ps.length+1) cap,ps++[.pointer p],?_,?_,?_⟩
 .rw[<-htw,<-q9];exact qh.blk (k4 R ζ (q5 R ζ) ζ)
 .exact OB.set6 (hob.kept ((k3 _ ζ (q5 _ ζ)).trans (hk2.block _ ζ ζ))) _
 .have:(ps++[C5 p]).length=ps.length+1:=φ;rw[this];exact Am q4 (λg' qg=>by
   have:g'=g:=by simpa[A2]using qg.symm
   subst this;exact Æ _ _ _ _ (show g'≠w0.1.size from ζ))
 .refine Al.snoc (Ar.move ?_ qd) (hal.mono λ_ _ h=>Ar.move ?_ h)
  .intro k h1 h2;have h3:some k≠sl.ownBlock:=λh=>by have:=(Af q8 k h.symm).1;omega
   refine⟨k4 k h2 h3 ζ,ζ,?_⟩;intro h;have qb:g=k:=by simpa[A2]using h
   rcases qe with h4|h4
   .exact h3 (by rw[h4,qb])
   .omega
  .intro k h1 h2;have h3:some k≠sl.ownBlock:=λh=>h1.2 h.symm;refine⟨(k4 k ζ h3 ζ).trans (hk2.block k h2 ζ),h1.1,?_⟩;intro h;have qb:g=k:=by simpa[A2]using h
   rcases qe with h4|h4
   .exact h3 (by rw[h4,qb])
   .omega
theorem GB(l:By):pR (pR l)=pR l:=by
 induction l with
 |nil=>rfl
 |cons c r ih=>
  by_cases h:uD c=true
  .have e:pR (c::r)=pR r:=by rw[pR,if_pos h]
   rw[e,ih]
  .have e:pR (c::r)=c::r:=by rw[pR,if_neg h]
   rw[e,e]
theorem Jd{cl:UInt8}{item:By->σ->Option (By×σ)}{s:σ}(hn:l.length<n)(hl:pR l=l):qZ cl item n l s=match item l s with
  |none=>none
  |some (l1,s1)=>if pQ (pR l1) cl then some ((pR l1).tail,s1)else if pQ (pR l1) 44 then qZ cl item (n-1) (pR l1).tail s1 else none:=by
 obtain⟨m,rfl⟩:∃m,n=m+1:=⟨n-1,ζ⟩
 rw[qZ,hl];rfl
theorem SO{cl:UInt8}{item:By->σ->Option (By×σ)}(n:Nat)(l:By)(s:σ):qZ cl item n (pR l) s=qZ cl item n l s:=by
 cases n with
 |zero=>rfl
 |succ n=>rw[qZ,qZ,GB]
theorem IK(f:Nat)(l:By)(o:O)(r:By)(h:pX f l=some (o,r)):r.length<l.length:=by
 have h2:=K5 f 1 l (false,(0,0)) (Ā _);rw[h]at h2;exact EO _ _ _ _ _ _ _ h2
theorem YQ(f:Nat)(r:By):pX (f+1) (91::r)=if pQ (pR r) 93 then some (rK [],(pR r).tail)else(qZ 93 (sV (pX f)) ((pR r).length+1) (pR r) []).map λx=>(rK x.2,x.1):=by
 grind [pR,pX,sV,pY,AZ,pQ,qZ,rK]
theorem TV{es:List O}{d:O}{X:Option (By×List O)}(hx:qZ 93 (sV (pX f)) n l es=X)(hn:l.length<n)(hl:pR l=l)(hs:pX f l=some (d,r)):
  X=if pQ (pR r) 93 then some ((pR r).tail,es++[d])else if pQ (pR r) 44 then qZ 93 (sV (pX f)) (n-1) (pR (pR r).tail) (es++[d])else none:=by
 rw[<-hx,Jd hn hl,SO];unfold sV;rw[hs]
theorem TW{es:List O}{X:Option (By×List O)}(hx:qZ 93 (sV (pX f)) n l es=X)(hn:l.length<n)(hl:pR l=l)(hs:pX f l=none):X=none:=by
 rw[<-hx,Jd hn hl];unfold sV;rw[hs]
theorem B8.fail{o:Option (O×By)}{q4 q0:Bool}{w:AT}(h:o=none)(hk:Ac R w w')(hr:RB w' R t mo q4 q0):
  B8 o f t R mo tw far w (.returned (.tuple #[.pointer none,InB 0])) w':=⟨hk,À ⟨h,rfl,_,_,hr⟩⟩
theorem MF.done{w:AT}{es:List O}(h:MF f R t mo tw far w0 w es){o:Option (O×By)}{q:Nat}(ho:o=some (rK es,r))(ha:AtX t q r):
  B8 o (f+1) t R mo tw far w0 (.returned (.tuple #[.pointer (some ⟨w0.1.size,0,none⟩),InB q])) w:=by
 obtain⟨sl,ps,hob,q0,hal⟩:=h.el;refine⟨h.kept,Å ⟨_,r,w0.1.size,q,ho,rfl,ha,?_,h.rb⟩⟩;refine⟨w0.1.size,rfl,Á _,À (À (À (Å ⟨es,sl,ps,rfl,hob,?_,?_,hal.mono λ_ _ h=>Ar.move ε h⟩)))⟩
 .exact⟨q0.1,q0.2.imp id ε⟩
 .intro g hg;have:=(Af q0 g hg).2;omega
theorem Wr(hV:QO f){w:AT}(hr:RB w R t mo tw far)(ha:AtX t p (91::r))(zq:0<=mo/\mo<=400)(yb:r.length<f):
  C0 A5 129 #[PtB R,InB p] w λe w'=>B8 (pX (f+1) (91::r)) (f+1) t R mo tw far w e w':=by
 obtain⟨i0,zn,hz0,y5,hz2⟩:=ę L7;obtain⟨X,hX⟩:∃X,X=qZ 93 (sV (pX f)) ((pR r).length+1) (pR r) []:=⟨_,rfl⟩
 have ze:pX (f+1) (91::r)=if pQ (pR r) 93 then some (rK [],(pR r).tail)else X.map λx=>(rK x.2,x.1):=by rw[hX];exact YQ f r
 obtain⟨w1,qg⟩:∃w1,w1=w.alloc (.cells #[.string ⟨#[97,114,114,97,121]⟩,.bool false,.string ⟨#[]⟩,InB 0,.string ⟨#[]⟩,.slice none 0 0,.slice none 0 0] 91):=⟨_,rfl⟩
 have za:=hr.lt;have z9:MF f R t mo tw far w w1 []:=by
  refine⟨?_,?_,?_,AE,[],?_,å _ _ _ _,trivial⟩
  .simp only[CD,Ħ];rw[qg];exact(Ä _ _ _ za).trans hr
  .rw[qg];exact(Ac.refl R w).alloc _
  .simp_all
  .rw[qg];exact Ax _ _ _ rfl
 have hsz:=ha.small;have qv:=ha.len;have zr:=ha.le;have zt:=ha.lt;simp only[É]at qv;have HA:=Ab ha.next;have qu:=Ab z9;have z5:=Ab ze;have HX:=Ab hX;have HV:=Ab hV;have y4:=Az r;clear hr ha z9 ze hX hV;go_enter func129,ntmps129;go_wp2_with fail;rw[<-qg];have y8:=Ab qg;clear qg;refine(CF qu.u.rb.rs HA.u).mono ?_;rintro e w2⟨⟨q,rfl,hq⟩,rfl⟩;have HQ:=Ab hq;have yd:=hq.le;clear hq;go_wp2_with fail;refine(Bx qu.u.rb.rs HQ.u 93 _ rfl).mono ?_;rintro e w3⟨rfl,rfl⟩;cases h93:pQ (pR r) 93 with
 |true=>
  have y6:=Ab h93;have HF:=Ab (qu.u.done (o:=pX (f+1) (91::r)) (by rw[z5.u,if_pos h93]) (HQ.u.tail h93));clear h93;go_wp2;go_ret2;exact HF.u
 |false=>
  have qd:=Ab (show pX (f+1) (91::r)=X.map λx=>(rK x.2,x.1) by rw[z5.u,if_neg (by rw[h93];decide)]);clear h93;go_wp2;go_loopw [1] (λa wr=>∃(q:Nat) (l':By) (es:List O) (n:Nat),a=InB q/\AtX t q l'/\pR l'=l'/\l'.length<n/\l'.length<f/\qZ 93 (sV (pX f)) n l' es=X/\MF f R t mo tw far w wr es/\es.length+l'.length<=8796093022209) (λa _=>t.size-(BY a).toNat)
  case atStart=>exact⟨q,pR r,[],(pR r).length+1,rfl,HQ.u,GB r,ζ,ζ,HX.u.symm,qu.u,ω⟩
  case round=>
   obtain⟨q,l',es,n,rfl,qm,zf,qv,z1,qq,hI,ya⟩:=hrel;have zl:=qm.len;have zb:=qm.le;have y7:=Ab qm;have z6:=Ab zf;have qi:=Ab qq;have HI:=Ab hI;have q7:=Ab (HV.u R t mo _ _ q l' wr hI.rb qm zq z1);clear qm zf qq hI;go_wp2_with fail;refine q7.u.mono ?_;rintro e w5⟨hk5,hc⟩;rcases hc with⟨d,r',V,q2,hs,rfl,qn,qt,qr⟩|⟨hs,rfl,yg,zk,qr⟩
   .obtain⟨sl,ps,hob,q4,hal⟩:=HI.u.el;have zc:=IK _ _ _ _ hs;have yc:ps.length<=8796093022209:=by have:=hal.length;omega
    have z3:=HI.u.sz;have qf:=hob.kept (hk5.block w.1.size ζ ζ);have q9:=Am q4 (λg hg=>hk5.block g (Af q4 g hg).1 (by have:=(Af q4 g hg).2;omega));have ye:=hk5.size;have nv:some w.1.size≠sl.ownBlock:=λh=>by have:=(Af q4 _ h.symm).2;omega
    have q6:=qf.c6;have zg:∀o,(w5.alloc o).cell? ⟨w.1.size,6,none⟩=some sl:=λo=>by rw[Ç (w:=w5) (Ä w5 o w.1.size ζ)];exact q6
    have zh:∀o,(w5.alloc o).frozen? ⟨w.1.size,6,none⟩=false:=λo=>by rw[Ĕ (w:=w5) (Ä w5 o w.1.size ζ)];exact qf.fz 6
    have qh:=Ab (λ(w3:AT) (g cap:Nat) (o:Obj) (h1:w3.ownsRow (w.1.size+1) 66 1 (SlB g (ps.length+1) cap) (ps.length+1) (ps++[PtB V])) (h2:(w5.alloc o).grownBy w3 sl.ownBlock) (h3:sl.ownBlock=some g\/g=w5.1.size+1)=>
     Zf (es:=es) (d:=d) za HI.u.kept z3 hk5 qr (tw:=tw) (far:=far) (by simp[Bs]) (by simp[Bs]) hob q4 hal h1 h2 h3 qt)
    have HS:=Ab hs;have qz:=Ab qn;have qj:=Ab q9;clear hs qn qt qr hob q4 hal qf q9 q7;go_wp2_with (at_builtin;refine õ _ rfl _ _ _ rfl (w.1.size+1) 66 i0 _ 1 8 underlying89 zn hz0 y5 hz2 rfl η sl ps.length ps rfl (qj.u.alloc _) ⟨w5.1.size,0,none⟩ 1 1 [PtB V] rfl rfl (Ö (cs:=#[PtB V]) (t:=66) (fr:=(0,0)) (Ê w5 _)) (by simp[CR]) η (by unfold DD;omega) ζ ω (w5.1.size+1) φ ?_;intro g cap w6 qb q0 qo zo;have zz:w6.frozen? ⟨w.1.size,6,none⟩=false:=(q0.frozen_far ⟨w.1.size,6,none⟩ ω nv).trans (zh _);have yy:w6.cell? ⟨w.1.size,6,none⟩=some sl:=(q0.cell_far ⟨w.1.size,6,none⟩ ω nv).trans (zg _));have I7:=qh.u w6 g cap _ qb q0 qo;obtain⟨w7,z4⟩:∃w7,w7=w6.setCell ⟨w.1.size,6,none⟩ (SlB g (ps.length+1) cap):=⟨_,rfl⟩
    rw[<-z4]at I7 |-;have q8:=Ab I7;have z8:=Ab (TV qi.u qv z6.u HS.u);have y9:=Ab z4;clear I7 qb q0 qo zz yy q6 zg zh z4 qh HI;refine(CF q8.u.rb.rs qz.u).mono ?_;rintro e w8⟨⟨q3,rfl,qw⟩,rfl⟩;have qk:=Ab qw;have zu:=qw.le;have zv:=qw.len;have zy:=Az r';clear qw;go_wp2_with fail;refine(Bx q8.u.rb.rs qk.u 93 _ rfl).mono ?_;rintro e w9⟨rfl,rfl⟩;cases h93:pQ (pR r') 93 with
    |true=>
     have HF:=Ab (q8.u.done (o:=pX (f+1) (91::r)) (by rw[qd.u,z8.u,if_pos h93];rfl) (qk.u.tail h93));have z2:=(qk.u.tail h93).le;clear h93;go_wp2;go_ret2;exact HF.u
    |false=>
     have z7:=Ab (show X=if pQ (pR r') 44 then qZ 93 (sV (pX f)) (n-1) (pR (pR r').tail) (es++[d])else none by rw[z8.u,if_neg κ]);clear h93;go_wp2_with fail;refine(Bx q8.u.rb.rs qk.u 44 _ rfl).mono ?_;rintro e yh⟨rfl,rfl⟩;cases h44:pQ (pR r') 44 with
     |false=>
      have HF:=Ab (B8.fail (o:=pX (f+1) (91::r)) (f:=f+1) (tw:=tw) (far:=far) (by rw[qd.u,z7.u,if_neg κ];rfl) q8.u.kept q8.u.rb);clear h44;go_wp2;go_ret2;exact HF.u
     |true=>
      have qe:=qk.u.tail h44;have z2:=qe.le;have yf:=AV h44;have zj:=Ab (show X=qZ 93 (sV (pX f)) (n-1) (pR (pR r').tail) (es++[d]) by rw[z7.u,if_pos h44]);have z0:=Ab qe;clear h44 qe;go_wp2_with fail;refine(CF q8.u.rb.rs z0.u).mono ?_;rintro e yi⟨⟨q5,rfl,qy⟩,rfl⟩;have zx:=qy.len;have zw:=qy.le;have y3:=Az (pR r').tail;have zi:=Ab qy;have zm:q<q5/\(pR (pR r').tail).length+1<l'.length:=ζ;clear qy;go_wp2;exact⟨⟨q5,_,es++[d],n-1,rfl,zi.u,GB _,ζ,ζ,zj.u.symm,q8.u,ω⟩,by simp only[BY];omega⟩
   .have HF:=Ab (B8.fail (o:=pX (f+1) (91::r)) (f:=f+1) (tw:=tw) (far:=far) (by rw[qd.u,TW qi.u qv z6.u hs];rfl) (HI.u.kept.trans hk5) qr);clear hs hk5 qr q7;go_wp2;go_ret2;exact HF.u
theorem RB.c2{w:AT}(h:RB w R t mo tw far):CeB w R 2=some (.bool tw):=ck h
theorem RB.set2{w:AT}(h:RB w R t mo tw far)(b:Bool):RB (w.setCell ⟨R,2,none⟩ (.bool b)) R t mo b far:=by
 unfold RB at h |-;rw[BX h];rfl
theorem Yr(f:Nat)(es:Ms)(k:By)(d:O):rR (f+1) (qF (es++[(k,d)]))=((rR (f+1) (qF es) || rR f d) || (es.map (·.1)).any (λa=>a==k)):=by
 have hl:qK (es++[(k,d)])=qK es++[(.string k,d)]:=by simp[qK]
 have hk:(qK es).any (λp=>p.1.sameKey (.string k))=(es.map (·.1)).any (λa=>a==k):=by
  unfold qK;rw[Ń,Ń];rfl
 show((qK (es++[(k,d)])).any (λp=>rR f p.2) || tX [] ((qK (es++[(k,d)])).map (·.1)))=(((qK es).any (λp=>rR f p.2) || tX [] ((qK es).map (·.1))) || rR f d || _)
 rw[hl,<-hk];simp only[CH,ļ,CD,Ħ,ă,Ð,ÿ,Qg,Ù,Ń,Function.comp_def];grind
theorem aE(mo:Int)(f:Nat)(es:Ms)(k:By)(d:O):sA mo (f+1) (qF (es++[(k,d)]))=(sA mo (f+1) (qF es) || sA mo f d):=by
 grind [qK,sA,qF]
theorem S6(k:By):∀(ks:List By) (ps:List A4),ps.length=ks.length->(∀p∈ps,∃b,p=.pointer (some b)) ->∃x,tS k ks ps=.pointer x/\x.isSome=ks.any (λa=>a==k)
 |[],[],_,_=>⟨none,rfl,rfl⟩
 |a::r,p::q,hl,hp=>by
  obtain⟨b,hb⟩:=hp p φ;obtain⟨x,h1,h2⟩:=S6 k r q ε (λy hy=>hp y (by simp[hy]));by_cases h:a=k
  .exact⟨some b,by rw[tS,if_pos h,hb],by simp[h]⟩
  .exact⟨x,by rw[tS,if_neg h,h1],ε⟩
structure Gc(f R:Nat)(t:ByteArray)(mo:Int)(tw far:Bool)(w0 w:AT)(es:Ms):Prop where
 rb:RB w R t mo (tw || rR (f+1) (qF es)) (far || sA mo (f+1) (qF es))
 kept:Ac R w0 w
 sz:w0.1.size+1<=w.1.size
 el:∃kl sl ps,OB w w0.1.size sC false [] 0 [] kl sl/\w.ownsRow (w0.1.size+1) 9 1 kl es.length (es.map λp=>AG p.1)/\w.ownsRow (w0.1.size+1) 66 1 sl ps.length ps/\
  Al (Ar f (λk=>w0.1.size+1<=k/\sl.ownBlock≠some k/\kl.ownBlock≠some k) w) ps (es.map (·.2))/\(∀g,kl.ownBlock=some g->sl.ownBlock≠some g)
theorem Gc.low{w:AT}{es:Ms}(h:Gc f R t mo tw far w0 w es)(hR:R<w0.1.size)(hb:Bl w w'):Gc f R t mo tw far w0 w' es:=by
 have h1:=h.sz;have h2:=hb.size;obtain⟨kl,sl,ps,hob,hk,hv,hal,hne⟩:=h.el;exact⟨h.rb.blk (hb.block R ζ),h.kept.trans (Ac.of_below hb),ζ,kl,sl,ps,hob.kept (hb.block _ ζ),Am hk (λg hg=>hb.block g (Af hk g hg).1),Am hv (λg hg=>hb.block g (Af hv g hg).1),
  hal.mono λ_ _ h=>Ar.move (λk h1 h2=>⟨hb.block k h2,h1⟩) h,hne⟩
theorem Gc.done{w:AT}{es:Ms}(h:Gc f R t mo tw far w0 w es){o:Option (O×By)}{q:Nat}(ho:o=some (qF es,r))(ha:AtX t q r):
  B8 o (f+1) t R mo tw far w0 (.returned (.tuple #[.pointer (some ⟨w0.1.size,0,none⟩),InB q])) w:=by
 obtain⟨kl,sl,ps,hob,hk,hv,hal,hne⟩:=h.el;refine⟨h.kept,Å ⟨_,r,w0.1.size,q,ho,rfl,ha,?_,h.rb⟩⟩;refine⟨w0.1.size,rfl,Á _,À (À (À (À ⟨es,kl,sl,ps,rfl,hob,?_,?_,?_,?_,hal.mono λ_ _ h=>Ar.move ε h⟩)))⟩
 .exact⟨hk.1,hk.2.imp id ε⟩
 .intro g hg;have:=(Af hk g hg).2;omega
 .exact⟨hv.1,hv.2.imp id ε⟩
 .intro g hg;have:=(Af hv g hg).2;omega
theorem Za{b2 q6:Bool}{w w5 w6 w8:AT}{es:Ms}{k:By}{d:O}(hR:R<w0.1.size)(q9:Ac R w0 w)(hsz:w0.1.size+1<=w.1.size)(hk5:Ac R w w5)(qj:RB w5 R t mo b2 q6)(htw:b2=(tw || rR (f+1) (qF (es++[(k,d)]))))(qe:q6=(far || sA mo (f+1) (qF (es++[(k,d)])))){kl:A4}(hob:OB w w0.1.size sC false [] 0 [] kl sl)(hok:w.ownsRow (w0.1.size+1) 9 1 kl es.length (es.map λp=>AG p.1))(qb:w.ownsRow (w0.1.size+1) 66 1 sl ps.length ps)(hal:Al (Ar f (λk=>w0.1.size+1<=k/\sl.ownBlock≠some k/\kl.ownBlock≠some k) w) ps (es.map (·.2)))(hne:∀g,kl.ownBlock=some g->sl.ownBlock≠some g){o1 o2:Obj}{g1 c1 g2 c2:Nat}(q0:w6.ownsRow (w0.1.size+1) 9 1 (SlB g1 (es.length+1) c1) (es.length+1) ((es.map λp=>AG p.1)++[AG k]))(q8:(w5.alloc o1).grownBy w6 kl.ownBlock)(q7:kl.ownBlock=some g1\/g1=w5.1.size+1){p:Option Addr}(qf:Ar f (λk=>w.1.size<=k) w5 (.pointer p) d)(q4:w8.ownsRow (w0.1.size+1) 66 1 (SlB g2 (ps.length+1) c2) (ps.length+1) (ps++[.pointer p]))(q5:((w6.setCell ⟨w0.1.size,5,none⟩ (SlB g1 (es.length+1) c1)).alloc o2).grownBy w8 sl.ownBlock)(qd:sl.ownBlock=some g2\/g2=w6.1.size+1):
  Gc f R t mo tw far w0 (w8.setCell ⟨w0.1.size,6,none⟩ (SlB g2 (ps.length+1) c2)) (es++[(k,d)]):=by
 have s5:=hk5.size;have s6:=q8.size;have s8:=q5.size;have a5:(w5.alloc o1).1.size=w5.1.size+1:=φ;have a7:((w6.setCell ⟨w0.1.size,5,none⟩ (SlB g1 (es.length+1) c1)).alloc o2).1.size=w6.1.size+1:=κ;have l6:=Af q0 g1 rfl;have l8:=Af q4 g2 rfl;have e6:∀j,j<w5.1.size->some j≠kl.ownBlock->w6.1[j]?=w5.1[j]?:=λj h1 h2=>(q8.block j ζ h2).trans (Ä w5 o1 j h1);have e8:∀j,j<w6.1.size->some j≠sl.ownBlock->j≠w0.1.size->w8.1[j]?=w6.1[j]?:=λj h1 h2 h3=>(q5.block j ζ h2).trans ((Ä _ o2 j κ).trans (Æ _ _ _ _ h3));have e9:∀j,j<w5.1.size->some j≠kl.ownBlock->some j≠sl.ownBlock->j≠w0.1.size->(w8.setCell ⟨w0.1.size,6,none⟩ (SlB g2 (ps.length+1) c2)).1[j]?=w5.1[j]?:=λj h1 h2 h3 h4=>
  (Æ _ _ _ _ h4).trans ε
 have nk:∀j,j<w0.1.size+1->some j≠kl.ownBlock:=λj hj h=>by have:=(Af hok j h.symm).2;omega
 have ns:∀j,j<w0.1.size+1->some j≠sl.ownBlock:=λj hj h=>by have:=(Af qb j h.symm).2;omega
 have qk:g1≠g2:=by
  intro h;rcases qd with h2|h2
  .rcases q7 with h1|h1
   .grind
   .have:=(Af qb g2 h2).1;omega
  .omega
 have qg:Ac R w0 (w8.setCell ⟨w0.1.size,6,none⟩ (SlB g2 (ps.length+1) c2)):=by
  have hk:=q9.trans hk5;have f1:w8.os=w6.os:=q5.os;have f2:w8.tape=w6.tape:=q5.tape;have f3:w8.output=w6.output:=q5.output;refine⟨f1.trans (q8.os.trans hk.os),f2.trans (q8.tape.trans hk.tape),f3.trans (q8.output.trans hk.output),?_,?_⟩
  .have:=hk.size;grind
  .intro j h1 h2;exact(e9 j ζ (nk j ζ) (ns j ζ) ζ).trans (hk.block j h1 h2)
 have qi:∀j,j<w5.1.size->w0.1.size+1<=j->kl.ownBlock≠some j->sl.ownBlock≠some j->g1≠j/\g2≠j:=by
  grind
 refine⟨?_,qg,by simp[A3];omega,SlB g1 (es.length+1) c1,SlB g2 (ps.length+1) c2,ps++[.pointer p],?_,?_,?_,?_,?_⟩
 .rw[<-htw,<-qe];exact qj.blk ε
 .have h6:OB w6 w0.1.size sC false [] 0 [] kl sl:=hob.kept ((e6 _ ζ (nk _ ζ)).trans (hk5.block _ ζ ζ));have h7:=h6.set5 (SlB g1 (es.length+1) c1);refine OB.set6 (h7.kept ((q5.block _ ζ (ns _ ζ)).trans (Ä _ o2 _ ?_))) _;simp[A3];omega
 .have h1:(es++[(k,d)]).length=es.length+1:=φ;have h2:((es++[(k,d)]).map λp=>AG p.1)=(es.map λp=>AG p.1)++[AG k]:=φ;rw[h1,h2];refine Am q0 λg hg=>?_;have qh:g=g1:=by simpa[A2]using hg.symm
  subst qh;refine(Æ _ _ _ _ ε).trans (e8 g l6.1 ?_ ζ);intro h;rcases q7 with h1|h1
  .grind
  .have:=(Af qb g h.symm).1;omega
 .have h1:(ps++[C5 p]).length=ps.length+1:=φ;rw[h1];exact Am q4 (λg hg=>by
   grind [A2,A3,qF])
 .rw[ă];refine Al.snoc (Ar.move ?_ qf) (hal.mono λ_ _ h=>Ar.move ?_ h)
  .intro j h1 h2;have h3:some j≠kl.ownBlock:=λh=>by have:=(Af hok j h.symm).1;omega
   have h4:some j≠sl.ownBlock:=λh=>by have:=(Af qb j h.symm).1;omega
   grind [A2,A3,qF]
  .intro j h1 h2;have h5:=qi j ζ h1.1 h1.2.2 h1.2.1;exact⟨(e9 j ζ (ň h1.2.2) (ň h1.2.1) ζ).trans (hk5.block j h2 ζ),h1.1,by simpa[A2]using h5.2,by simpa[A2]using h5.1⟩
 grind [A2,A3,qF]
theorem YN(f:Nat)(r:By):pX (f+1) (123::r)=if pQ (pR r) 125 then some (qF [],(pR r).tail)else(qZ 125 (rY (pX f)) ((pR r).length+1) (pR r) []).map λx=>(qF x.2,x.1):=by
 have e:AZ 123 125 (rY (pX f)) (123::r) []=if pQ (pR r) 125=true then some ((pR r).tail,[])else qZ 125 (rY (pX f)) ((pR r).length+1) (pR r) []:=by
  rfl
 rw[pX,if_pos θ,e];grind
theorem TQ{k:By}{es:Ms}{d:O}{X:Option (By×Ms)}(hx:qZ 125 (rY (pX f)) n l es=X)(hn:l.length<n)(hl:pR l=l)(hq:rJ l=some (k,l1))(h58:pQ (pR l1) 58=true)(hs:pX f (pR (pR l1).tail)=some (d,r)):
  X=if pQ (pR r) 125 then some ((pR r).tail,es++[(k,d)])else if pQ (pR r) 44 then qZ 125 (rY (pX f)) (n-1) (pR (pR r).tail) (es++[(k,d)])else none:=by
 rw[<-hx,Jd hn hl,SO];grind [pR,rY,pX]
theorem TR{es:Ms}{X:Option (By×Ms)}(hx:qZ 125 (rY (pX f)) n l es=X)(hn:l.length<n)(hl:pR l=l)(hs:rY (pX f) l es=none):X=none:=by
 rw[<-hx,Jd hn hl,hs]
theorem Sg{es:Ms}(h:rJ l=none):rY (pX f) l es=none:=by unfold rY;rw[h]
theorem fE{k:By}{es:Ms}(h:rJ l=some (k,l1))(h2:pQ (pR l1) 58=false):rY (pX f) l es=none:=by unfold rY;grind
theorem fC{k:By}{es:Ms}(h:rJ l=some (k,l1))(h2:pX f (pR (pR l1).tail)=none):rY (pX f) l es=none:=by
 grind [rY,pX,pR]
theorem kP(h:pQ l 34=false):rJ l=none:=by unfold rJ;grind
theorem Gd(h:pQ l c=true):∃r,l=c::r:=by
 cases l with
 |nil=>cases h
 |cons a r=>exact⟨r,by rw[show a=c from by simpa[pQ]using h]⟩
theorem Un(hV:QO f){w:AT}(hr:RB w R t mo tw far)(ha:AtX t p (123::r))(x7:0<=mo/\mo<=400)(v7:r.length<f):
  C0 A5 130 #[PtB R,InB p] w λe w'=>B8 (pX (f+1) (123::r)) (f+1) t R mo tw far w e w':=by
 obtain⟨i0,x5,hz0,xr,hz2⟩:=ę L7;obtain⟨i1,xt,xu,xw,xx⟩:=ę OU;obtain⟨X,hX⟩:∃X,X=qZ 125 (rY (pX f)) ((pR r).length+1) (pR r) []:=⟨_,rfl⟩
 have je:pX (f+1) (123::r)=if pQ (pR r) 125 then some (qF [],(pR r).tail)else X.map λx=>(qF x.2,x.1):=by rw[hX];exact YN f r
 obtain⟨w1,z7⟩:∃w1,w1=w.alloc (.cells #[.string ⟨#[111,98,106,101,99,116]⟩,.bool false,.string ⟨#[]⟩,InB 0,.string ⟨#[]⟩,.slice none 0 0,.slice none 0 0] 91):=⟨_,rfl⟩
 have ym:=hr.lt;have j7:Gc f R t mo tw far w w1 []:=by
  refine⟨?_,?_,?_,AE,AE,[],?_,å _ _ _ _,å _ _ _ _,trivial,λg hg=>by cases hg⟩
  .show RB w1 R t mo (tw || false) (far || false);simp only[Ħ];rw[z7];exact(Ä _ _ _ ym).trans hr
  .rw[z7];exact(Ac.refl R w).alloc _
  .rw[z7];simp
  .rw[z7];exact Ax _ _ _ rfl
 have hsz:=ha.small;have zw:=ha.len;have x8:=ha.le;have xb:=ha.lt;simp only[É]at zw;have HA:=Ab ha.next;have zo:=Ab j7;have j5:=Ab je;have HX:=Ab hX;have HV:=Ab hV;have xp:=Az r;clear hr ha j7 je hX hV;go_enter func130,ntmps130;go_wp2_with fail;rw[<-z7];have v3:=Ab z7;clear z7;refine(CF zo.u.rb.rs HA.u).mono ?_;rintro e w2⟨⟨q,rfl,hq⟩,rfl⟩;have HQ:=Ab hq;have va:=hq.le;clear hq;go_wp2_with fail;refine(Bx zo.u.rb.rs HQ.u 125 _ rfl).mono ?_;rintro e w3⟨rfl,rfl⟩;cases h93:pQ (pR r) 125 with
 |true=>
  have xc:=(HQ.u.tail h93).le;have HF:=Ab (zo.u.done (o:=pX (f+1) (123::r)) (by rw[j5.u,if_pos h93]) (HQ.u.tail h93));clear h93;go_wp2;go_ret2;exact HF.u
 |false=>
  have qt:=Ab (show pX (f+1) (123::r)=X.map λx=>(qF x.2,x.1) by rw[j5.u,if_neg (by rw[h93];decide)]);clear h93;go_wp2;go_loopw [1] (λa wr=>∃(q:Nat) (l':By) (es:Ms) (n:Nat),a=InB q/\AtX t q l'/\pR l'=l'/\l'.length<n/\l'.length<f/\qZ 125 (rY (pX f)) n l' es=X/\Gc f R t mo tw far w wr es/\es.length+l'.length<=8796093022209) (λa _=>t.size-(BY a).toNat)
  case atStart=>exact⟨q,pR r,[],(pR r).length+1,rfl,HQ.u,GB r,ζ,ζ,HX.u.symm,zo.u,ω⟩
  case round=>
   obtain⟨q,l',es,n,rfl,zv,yu,zw,yq,qz,hI,x2⟩:=hrel;have yn:=zv.len;have j8:=zv.le;have yz:=Ab zv;have jy:=Ab yu;have ye:=Ab qz;have HI:=Ab hI;have zq:=Ab (λh=>show pX (f+1) (123::r)=none by rw[qt.u,TR qz zw yu h];rfl);clear zv yu qz hI;go_wp2_with fail;refine(Bx HI.u.rb.rs yz.u 34 _ rfl).mono ?_;rintro e w4⟨rfl,rfl⟩;cases h34:pQ l' 34 with
   |false=>
    have HF:=Ab (B8.fail (o:=pX (f+1) (123::r)) (f:=f+1) (tw:=tw) (far:=far) (zq.u (Sg (kP h34))) HI.u.kept HI.u.rb);clear h34;go_wp2;go_ret2;exact HF.u
   |true=>
    obtain⟨r0,rfl⟩:=Gd h34;have q9:=Ab (NF HI.u.rb.rs yz.u (by have:=HI.u.sz;omega));clear h34;go_wp2_with fail;refine q9.u.mono ?_;rintro e w5⟨hc,yo⟩;clear q9;have qd:=Ab (HI.u.low ym yo);rcases hc with⟨k,l1,b,q1,hs,rfl,j9,qu,v9⟩|⟨hs,rfl⟩
    .obtain rfl:b=⟨k.toArray⟩:=by rw[<-j9,Ě]
     have HS:=Ab hs;have y8:=Ab qu;have x6:=Ff hs;have e0:((q1:Int)==0)=false:=by rw[beq_eq_false_iff_ne];omega
     have jd:=qu.le;have v5:k.length<=35184372088832:=by have:=Ps hs;omega
     clear hs qu j9 yo HI;go_wp2_with fail;refine(CF qd.u.rb.rs y8.u).mono ?_;rintro e w6⟨⟨q2,rfl,zx⟩,rfl⟩;have j4:=Ab zx;have xd:=zx.le;have xe:=zx.len;have xl:=Az l1;clear zx;go_wp2_with fail;refine(Bx qd.u.rb.rs j4.u 58 _ rfl).mono ?_;rintro e w7⟨rfl,rfl⟩;cases h58:pQ (pR l1) 58 with
     |false=>
      have HF:=Ab (B8.fail (o:=pX (f+1) (123::r)) (f:=f+1) (tw:=tw) (far:=far) (zq.u (fE HS.u h58)) qd.u.kept qd.u.rb);clear h58;go_wp2;go_ret2;exact HF.u
     |true=>
      have qv:=j4.u.tail h58;have xf:=qv.le;have ve:=AV h58;have jm:=Ab h58;have y9:=Ab qv;clear h58 qv;go_wp2_with fail;refine(CF qd.u.rb.rs y9.u).mono ?_;rintro e w8⟨⟨q4,rfl,zy⟩,rfl⟩;have xz:=Ab zy;have xm:=Az (pR l1).tail;have xg:=zy.len;simp only[É]at yn x6 yq zw x2;have q9:=Ab (HV.u R t mo _ _ q4 _ w8 qd.u.rb zy x7 ζ);clear zy;go_wp2_with fail;refine q9.u.mono ?_;rintro e w9⟨qy,hc⟩;clear q9;rcases hc with⟨d,r',V,q5,za,rfl,zh,zm,z9⟩|⟨za,rfl,vf,x1,z9⟩
      .obtain⟨kl,sl,ps,hob,hok,zj,hal,hne⟩:=qd.u.el;have yr:ps.length=es.length:=by have:=hal.length;simpa using this
       have v8:=IK _ _ _ _ za;have yv:=qd.u.sz;have vd:=qy.size;have z0:=hob.kept (qy.block w.1.size ζ ζ);have z2:=Am hok (λg hg=>qy.block g (Af hok g hg).1 (by have:=(Af hok g hg).2;omega));have z4:=Am zj (λg hg=>qy.block g (Af zj g hg).1 (by have:=(Af zj g hg).2;omega));have zk:∀p∈ps,∃b,p=.pointer (some b):=by
        intro p hp;obtain⟨j,hj,rfl⟩:=ù hp;obtain⟨b,hb,_⟩:=(hal.get j hj ω).ptr;exact⟨_,hb⟩
       obtain⟨x,jg,jh⟩:=S6 k (es.map (·.1)) ps (by simpa using yr) zk;have zi:=Ab (IO z0 (ks:=es.map (·.1)) (B1:=w.1.size+1) (by rw[æ,Ý];exact z2) z4 (by simpa using yr) k);obtain⟨b1,hb1⟩:∃b1,b1=((tw || rR (f+1) (qF es)) || rR f d):=⟨_,rfl⟩
       obtain⟨f1,yp⟩:∃f1,f1=((far || sA mo (f+1) (qF es)) || sA mo f d):=⟨_,rfl⟩
       rw[<-hb1,<-yp]at z9;have jx:=Ab za;have ya:=Ab zh;have yj:=Ab zm;have yh:=Ab z9;have j3:=Ab hob;have zr:=Ab hok;have zt:=Ab zj;have jo:=Ab hal;have j0:=Ab hne;have jt:=Ab z0;have ju:=Ab z2;have jv:=Ab z4;have jz:=Ab jg;have zu:=Ab jh;have jp:=Ab hb1;have jq:=Ab yp;clear za zh zm z9 hob hok zj hal hne z0 z2 z4 jg jh hb1 yp zk;go_wp2_with fail;refine zi.u.mono ?_;rintro e xy⟨rfl,rfl⟩;rw[jz.u];clear zi;have r2:=yh.u.c2;have y2:=yh.u.fz 2;go_upto_region 17 with(fail)
       go_cut [] (λwx=>wx=xy.setCell ⟨R,2,none⟩ (.bool (b1 || x.isSome)))
       case first=>
        cases b1 with
        |true=>
         go_wp2;go_meet;rfl
        |false=>
         cases x with
         |none=>
          go_wp2;go_meet;rfl
         |some a=>
          go_wp2;go_meet;rfl
       case rest=>
       have zl:RB wc R t mo (b1 || x.isSome) f1:=by rw[hcut];exact yh.u.set2 _
       have z8:Ac R w8 wc:=by rw[hcut];exact qy.setCell rfl _
       have yc:=Ab hcut;clear hcut r2 y2;have vc:=z8.size;have qg:=j3.u.kept (z8.block w.1.size ζ ζ);have z1:=Am zr.u (λg hg=>z8.block g (Af zr.u g hg).1 (by have:=(Af zr.u g hg).2;omega));have z3:=Am zt.u (λg hg=>z8.block g (Af zt.u g hg).1 (by have:=(Af zt.u g hg).2;omega));have qo:Ar f (λk=>w8.1.size<=k) wc (PtB V) d:=yj.u.move λj h1 h2=>⟨by rw[yc.u];exact Æ _ _ _ _ (by show j≠R;omega),h1⟩
       have nk:some w.1.size≠kl.ownBlock:=λh=>by have:=(Af z1 _ h.symm).2;omega
       have nv:some w.1.size≠sl.ownBlock:=λh=>by have:=(Af z3 _ h.symm).2;omega
       have p5:=qg.c5;have ji:∀o,(wc.alloc o).cell? ⟨w.1.size,5,none⟩=some kl:=λo=>by rw[Ç (w:=wc) (Ä wc o w.1.size ζ)];exact p5
       have jj:∀o,(wc.alloc o).cell? ⟨w.1.size,6,none⟩=some sl:=λo=>by rw[Ç (w:=wc) (Ä wc o w.1.size ζ)];exact qg.c6
       have yx:∀o j,(wc.alloc o).frozen? ⟨w.1.size,j,none⟩=false:=λo j=>by rw[Ĕ (w:=wc) (Ä wc o w.1.size ζ)];exact qg.fz j
       have v6:es.length<=8796093022209:=ζ;have yg:=Ab z1;have ze:=Ab z3;have yf:=Ab qg;have zg:=Ab qo;have yi:=Ab zl;have jr:=Ab z8;clear z1 z3 qg qo zl z8;go_upto_region 19 with(at_builtin;refine õ _ rfl _ _ _ rfl (w.1.size+1) 9 i1 _ 1 16 underlying59 xt xu xw xx rfl η kl es.length (es.map λp=>AG p.1) rfl (yg.u.alloc _) ⟨wc.1.size,0,none⟩ 1 1 [AG k] rfl rfl (Ö (cs:=#[AG k]) (t:=9) (fr:=(0,0)) (Ê wc _)) (by simp[AG,CR]) η (by unfold DD;omega) ζ ω (wc.1.size+1) φ ?_;intro g1 c1 qq qh q0 qk jb;have y5:qq.cell? ⟨w.1.size,5,none⟩=some kl:=(q0.cell_far ⟨w.1.size,5,none⟩ ω nk).trans (ji _);have y6:qq.cell? ⟨w.1.size,6,none⟩=some sl:=(q0.cell_far ⟨w.1.size,6,none⟩ ω nk).trans (jj _);have z5:qq.frozen? ⟨w.1.size,5,none⟩=false:=(q0.frozen_far ⟨w.1.size,5,none⟩ ω nk).trans (yx _ 5);have z6:qq.frozen? ⟨w.1.size,6,none⟩=false:=(q0.frozen_far ⟨w.1.size,6,none⟩ ω nk).trans (yx _ 6))
       have ja:wc.1.size+1<=qq.1.size:=by have:=q0.size;simpa using this
       obtain⟨qb,qe⟩:∃qb,qb=qq.setCell ⟨w.1.size,5,none⟩ (SlB g1 (es.length+1) c1):=⟨_,rfl⟩
       rw[<-qe];have zn:qb.1.size=qq.1.size:=by rw[qe];simp[A3]
       have qn:=Am (w':=qb) ze.u (λg hg=>by
        have hg2:=Af ze.u g hg;rw[qe];refine(Æ _ _ _ _ (show g≠w.1.size from ζ)).trans ((q0.block g ω ?_).trans (Ä wc _ g hg2.1));intro h;exact j0.u g h.symm hg)
       have qf:OB qb w.1.size sC false [] 0 [] (SlB g1 (es.length+1) c1) sl:=by
        rw[qe];exact OB.set5 (yf.u.kept ((q0.block w.1.size ω nk).trans (Ä wc _ w.1.size ζ))) _
       have u6:=qf.c6;have jk:∀o,(qb.alloc o).cell? ⟨w.1.size,6,none⟩=some sl:=λo=>by rw[Ç (w:=qb) (Ä qb o w.1.size ζ)];exact u6
       have jl:∀o,(qb.alloc o).frozen? ⟨w.1.size,6,none⟩=false:=λo=>by
        rw[Ĕ (w:=qb) (Ä qb o w.1.size ζ)];exact qf.fz 6
       have zc:=Ab qn;have yl:=Ab qe;have yd:=Ab q0;have qr:=Ab qh;have zb:=Ab qk;have yk:=Ab zn;have jf:qq.1.size<=qb.1.size:=ζ;clear zn qn qf qe q0 qh qk y5 y6 z5 z6 p5 ji jj yx;go_wp2_with (at_builtin;refine õ _ rfl _ _ _ rfl (w.1.size+1) 66 i0 _ 1 8 underlying89 x5 hz0 xr hz2 rfl η sl ps.length ps rfl (zc.u.alloc _) ⟨qb.1.size,0,none⟩ 1 1 [PtB V] rfl rfl (Ö (cs:=#[PtB V]) (t:=66) (fr:=(0,0)) (Ê qb _)) (by simp[CR]) η (by unfold DD;omega) ζ ω (qb.1.size+1) φ ?_;intro g2 c2 y7 qi q7 qm jc;have zz:y7.frozen? ⟨w.1.size,6,none⟩=false:=(q7.frozen_far ⟨w.1.size,6,none⟩ ω nv).trans (jl _);have yy:y7.cell? ⟨w.1.size,6,none⟩=some sl:=(q7.cell_far ⟨w.1.size,6,none⟩ ω nv).trans (jk _));have I7:Gc f R t mo tw far w (y7.setCell ⟨w.1.size,6,none⟩ (SlB g2 (ps.length+1) c2)) (es++[(k,d)]):=by
        rw[yl.u]at q7;refine Za ym qd.u.kept yv jr.u yi.u ?_ ?_ j3.u zr.u zt.u jo.u j0.u qr.u yd.u zb.u zg.u qi q7 (by rw[<-yk.u];exact qm)
        .rw[Yr,zu.u,jp.u];simp only[Bs]
        .rw[aE,jq.u];simp only[Bs]
       rw[yr]at I7;obtain⟨w7,yw⟩:∃w7,w7=y7.setCell ⟨w.1.size,6,none⟩ (SlB g2 (es.length+1) c2):=⟨_,rfl⟩
       rw[<-yw]at I7 |-;have qj:=Ab I7;have j6:=Ab (TQ ye.u (by simp only[É];omega) jy.u HS.u jm.u jx.u);have v4:=Ab yw;clear I7 qi q7 qm zz yy u6 jk jl yw;refine(CF qj.u.rb.rs ya.u).mono ?_;rintro e vg⟨⟨q6,rfl,y3⟩,rfl⟩;have zf:=Ab y3;have xh:=y3.le;have xi:=y3.len;have xn:=Az r';clear y3;go_wp2_with fail;refine(Bx qj.u.rb.rs zf.u 125 _ rfl).mono ?_;rintro e vh⟨rfl,rfl⟩;cases h93:pQ (pR r') 125 with
       |true=>
        have HF:=Ab (qj.u.done (o:=pX (f+1) (123::r)) (by rw[qt.u,j6.u,if_pos h93];rfl) (zf.u.tail h93));have yt:=(zf.u.tail h93).le;clear h93;go_wp2;go_ret2;exact HF.u
       |false=>
        have zu:=Ab (show X=if pQ (pR r') 44 then qZ 125 (rY (pX f)) (n-1) (pR (pR r').tail) (es++[(k,d)])else none by rw[j6.u,if_neg (by rw[h93];decide)]);clear h93;go_wp2_with fail;refine(Bx qj.u.rb.rs zf.u 44 _ rfl).mono ?_;rintro e vi⟨rfl,rfl⟩;cases h44:pQ (pR r') 44 with
        |false=>
         have HF:=Ab (B8.fail (o:=pX (f+1) (123::r)) (f:=f+1) (tw:=tw) (far:=far) (by rw[qt.u,zu.u,if_neg (by rw[h44];decide)];rfl) qj.u.kept qj.u.rb);clear h44;go_wp2;go_ret2;exact HF.u
        |true=>
         have qw:=zf.u.tail h44;have yt:=qw.le;have xq:=AV h44;have x0:=Ab (show X=qZ 125 (rY (pX f)) (n-1) (pR (pR r').tail) (es++[(k,d)]) by rw[zu.u,if_pos h44]);have yb:=Ab qw;clear h44 qw;go_wp2_with fail;refine(CF qj.u.rb.rs yb.u).mono ?_;rintro e vj⟨⟨q8,rfl,y4⟩,rfl⟩;have xk:=y4.len;have xj:=y4.le;have xo:=Az (pR r').tail;have jw:=Ab y4;have x3:q<q8/\(pR (pR r').tail).length+1<r0.length+1:=ζ;clear y4;go_wp2;go_roundw
         case rel=>(repeat apply Exists.intro);exact⟨rfl,jw.u,GB _,ζ,ζ,x0.u.symm,qj.u,ω⟩
         case measure=>simp only[BY];omega
      .have HF:=Ab (B8.fail (o:=pX (f+1) (123::r)) (f:=f+1) (tw:=tw) (far:=far) (zq.u (fC HS.u za)) (qd.u.kept.trans qy) z9);clear za qy z9;go_wp2;go_ret2;exact HF.u
    .have HF:=Ab (B8.fail (o:=pX (f+1) (123::r)) (f:=f+1) (tw:=tw) (far:=far) (zq.u (Sg hs)) qd.u.kept qd.u.rb);clear hs yo qd HI;go_wp2;go_ret2;exact HF.u
def rwL(j:Nat):By:=if j=0 then[110,117,108,108]else if j=1 then[102,97,108,115,101]else[116,114,117,101]
def rwK(j:Nat):Nat:=if j=0 then 0 else if j=1 then 2 else 1
theorem eZ(j:Nat):(rwL j).length<=5/\0<(rwL j).length:=by
 unfold rwL
 repeat' split
 all_goals decide
theorem kF(j:Nat):rwK j<3:=by
 unfold rwK
 repeat' split
 all_goals omega
theorem YM(j:Nat):rE.getD (rwK j) []=rwL j:=by
 unfold rwK rwL
 repeat' split
 all_goals rfl
theorem VU(f:Nat)(l:By)(j:Nat)(hj:j<3)(h:A1 l (rwL j)=true):pX (f+1) l=some (tL (rwK j),l.drop (rwL j).length):=by
 unfold A1 at h;obtain⟨r,rfl⟩:=List.isPrefixOf_iff_prefix.1 h
 match j,hj with
 |0,_=>simp[pX,rwL,rwK,pY,A6,rE,A1,CL]
 |1,_=>simp[pX,rwL,rwK,pY,A6,rE,A1,CL]
 |2,_=>simp[pX,rwL,rwK,pY,A6,rE,A1,CL]
theorem OT(h:pQ l c=false)(hc:0<c.toNat):¬pY l=c.toNat:=by
 cases l with
 |nil=>show ¬0=_;omega
 |cons a r=>
  intro e;have:a=c:=ì.1 e;rw[this]at h;simp[pQ]at h
theorem XC(l:By):tW l=true<->48<=pY l/\pY l<=57:=by
 cases l with
 |nil=>simp[tW,pY]
 |cons a r=>exact CI a
theorem nE(h:pQ l c=true):pY l=c.toNat:=by
 obtain⟨r,rfl⟩:=Gd h;rfl
theorem VV(f:Nat)(l:By)(h:∀j,j<3->A1 l (rwL j)=false)(hd:tW l=false)(h45:pQ l 45=false)(h34:pQ l 34=false)(h91:pQ l 91=false)(h123:pQ l 123=false):pX (f+1) l=none:=by
 have e1:¬pY l=45:=OT h45 η;have e2:¬pY l=34:=OT h34 η;have e3:¬pY l=91:=OT h91 η;have e4:¬pY l=123:=OT h123 η;have e5:¬(48<=pY l/\pY l<=57):=by rw[<-XC,hd];decide
 have w0:A1 l [110,117,108,108]=false:=h 0 ζ;have w1:A1 l [102,97,108,115,101]=false:=h 1 ζ;have w2:A1 l [116,114,117,101]=false:=h 2 ζ;unfold pX;rw[if_neg e4,if_neg e3,if_neg e2,if_neg (λh=>h.elim e1 e5)];simp[A6,rE,w0,w1,w2]
theorem YO(f:Nat)(l:By)(h:tW l=true\/pQ l 45=true):pX (f+1) l=(rO l).map λx=>(tB x.1 (tN l),x.2):=by
 have hp:pY l=45\/(48<=pY l/\pY l<=57):=h.elim (λh=>À ((XC l).1 h)) (λh=>Å (nE h));unfold pX;rw[if_neg ζ,if_neg ζ,if_neg ζ,if_pos hp];cases rO l<;>rfl
theorem Pn(f:Nat)(r:By):pX (f+1) (34::r)=(rJ (34::r)).map λx=>(uA x.1,x.2):=by
 unfold pX;rw[if_neg (by simp[pY]),if_neg (by simp[pY]),if_pos (by simp[pY])];cases rJ (34::r)<;>rfl
theorem B8.up{o:Option (O×By)}{w wa:AT}(h:B8 o f t R mo tw far wa e w')(hk:Ac R w wa):B8 o f t R mo tw far w e w':=by
 obtain⟨h1,h2⟩:=h;refine⟨hk.trans h1,h2.imp ?_ id⟩;rintro⟨d,r,V,q,a1,a2,a3,a4,a5⟩;have:=hk.size;exact⟨d,r,V,q,a1,a2,a3,a4.move (λk h1 _=>⟨rfl,ζ⟩),a5⟩
theorem D7.ov{w:AT}(h:D7 (rO l) (tN l) t R mo tw far w e w')(hp:tW l=true\/pQ l 45=true):B8 (pX (f+1) l) (f+1) t R mo tw far w e w':=by
 obtain⟨h1,h2⟩:=h;rw[YO f l hp];refine⟨h1,?_⟩;rcases h2 with⟨n,r,V,q,ds,a1,a2,a3,a4,a5,a6,a7⟩|⟨a1,a2,a3⟩
 .refine Å ⟨tB n (tN l),r,V,q,by rw[a1];rfl,a2,a3,⟨V,rfl,a4,À (Å ⟨n,tN l,rfl,a6.ob a5⟩)⟩,?_⟩;show RB w' R t mo (tw || false) _;rw[Ħ];exact a7
 .exact À ⟨by rw[a1];rfl,a2,tw,far,a3⟩
theorem B8.form{o:Option (O×By)}{w:AT}(h:B8 o f t R mo tw far w e w'):∃(a:Option Addr) (q:Nat),e=.returned (.tuple #[.pointer a,InB q]):=by
 rcases h.2 with⟨d,r,V,q,a1,a2,_⟩|⟨a1,a2,_⟩
 .grind
 .exact⟨none,0,a2⟩
theorem Rk(hV:QO f):QO (f+1):=by
 intro R t mo tw far p l w hr ha qf qr;have z2:=hr.lt;obtain⟨wa,q8⟩:∃wa,wa=w.alloc (.cells #[.string ⟨#[110,117,108,108]⟩,.string ⟨#[102,97,108,115,101]⟩,.string ⟨#[116,114,117,101]⟩] 9):=⟨_,rfl⟩
 have qk:RB wa R t mo tw far:=by rw[q8];exact(Ä _ _ _ hr.lt).trans hr
 have qn:Ac R w wa:=by rw[q8];exact(Ac.refl R w).alloc _
 have qe:wa.1[w.1.size]?=some (.cells #[.string ⟨#[110,117,108,108]⟩,.string ⟨#[102,97,108,115,101]⟩,.string ⟨#[116,114,117,101]⟩] 9 (0,0)):=by rw[q8];exact Ax _ _ _ rfl
 have q6:∀j,j<3->wa.cell? ⟨w.1.size,j,none⟩=some (.string ⟨(rwL j).toArray⟩):=by
  intro j hj
  match j,hj with
  |0,_=>simp[B3,qe,rwL]
  |1,_=>simp[B3,qe,rwL]
  |2,_=>simp[B3,qe,rwL]
 have hsz:=ha.small;have z4:=ha.len;have z1:=ha.le;have rs:=qk.rs;unfold RS at rs;have HR:=Ab qk;have HK:=Ab qn;have HA:=Ab ha;have HC:=Ab q6;have HV:=Ab hV;clear hr ha qk qn qe q6 hV;go_enter func91,ntmps91;go_wp2_with fail;rw[<-q8];have HW:=Ab q8;clear q8;go_loopw [7] (λi wr=>∃j:Nat,j<=3/\i=InB j/\(∀k,k<j->A1 l (rwL k)=false)/\wr=wa) (λi _=>3-(BY i).toNat)
 case atStart=>grind
 case round=>
  obtain⟨j,hj,rfl,hno,rfl⟩:=hrel;have qd:=Ab hno;clear hno;by_cases hlt:j<3
  .have hc:=HC.u j hlt;have qo:=eZ j;obtain⟨q,hq⟩:∃q,q=p+(rwL j).length:=⟨_,rfl⟩
   have z7:(p:Int)+((rwL j).length:Int)=(q:Int):=ζ;have z5:p<=q:=ζ;have HQ:=Ab hq;clear hq;by_cases z3:q<=t.size
   .have z0:decide ((q:Int)<=(t.size:Int))=true:=decide_eq_true ζ;have hex:t.extract p q=⟨(l.take (rwL j).length).toArray⟩:=by
     have h1:=Jl t p (rwL j).length;rw[<-HQ.u,HA.u.eq]at h1;rw[<-h1,Ě]
    cases hp:A1 l (rwL j)with
    |true=>
     have htk:l.take (rwL j).length=rwL j:=by
      unfold A1 at hp;exact(List.prefix_iff_eq_take.1 ε).symm
     rw[htk]at hex;have qu:=VU f l j hlt hp;have qj:=Ab qu;have qy:=Ab (show AtX t q (l.drop (rwL j).length) by have:=HA.u.add (rwL j).length ζ;grind);have HL:=Ab qo;clear hp htk qu qo;go_wp2;go_ret2;refine⟨HK.u.alloc _,Å ⟨tL (rwK j),l.drop (rwL j).length,wr.1.size,q,qj.u,rfl,qy.u,⟨wr.1.size,rfl,HK.u.size,Å ⟨rwK j,kF j,rfl,by rw[YM];exact Ax _ _ _ rfl⟩⟩,?_⟩⟩;show RB _ R t mo (tw || false) (far || false);rw[Ħ,Ħ];exact(Ä _ _ _ HR.u.lt).trans HR.u
    |false=>
     have htk:(l.take (rwL j).length==rwL j)=false:=by
      rw[beq_eq_false_iff_ne];intro h;unfold A1 at hp;grind
     have HP:=Ab hp;clear hp;go_wp2;exact⟨⟨j+1,ζ,ψ,λk hk=>(by
      by_cases h:k=j
      .rw[h];exact HP.u
      .exact qd.u k ζ),trivial⟩,by simp only[BY];omega⟩
   .have z0:decide ((q:Int)<=(t.size:Int))=false:=ε;have HP:=Ab (show A1 l (rwL j)=false by
     unfold A1;grind)
    go_wp2;exact⟨⟨j+1,ζ,ψ,λk hk=>(by
     by_cases h:k=j
     .rw[h];exact HP.u
     .exact qd.u k ζ),trivial⟩,by simp only[BY];omega⟩
  .have qz:=Ab (λ(k:Nat) (hk:k<3)=>qd.u k ζ);clear qd;go_wp2_with fail;refine(IP HR.u.rs HA.u).mono ?_;rintro e w2⟨rfl,rfl⟩;cases hd:tW l with
   |true=>
    have HD:=Ab hd;clear hd;go_wp2_with fail;refine(KQ HR.u HA.u qf).mono ?_;rintro e w9 q4;have q5:=(q4.ov (f:=f) (Å HD.u)).up HK.u;obtain⟨a,qq,rfl⟩:=q5.form;have q7:=Ab q5;clear q5 q4;go_wp2;go_ret2;exact q7.u
   |false=>
    have HD:=Ab hd;clear hd;go_wp2_with fail;refine(Bx HR.u.rs HA.u 45 _ rfl).mono ?_;rintro e w3⟨rfl,rfl⟩;cases h45:pQ l 45 with
    |true=>
     have qg:=Ab h45;clear h45;go_wp2_with fail;refine(KQ HR.u HA.u qf).mono ?_;rintro e w9 q4;have q5:=(q4.ov (f:=f) (À qg.u)).up HK.u;obtain⟨a,qq,rfl⟩:=q5.form;have q7:=Ab q5;clear q5 q4;go_wp2;go_ret2;exact q7.u
    |false=>
     have qg:=Ab h45;clear h45;go_wp2_with fail;refine(Bx HR.u.rs HA.u 34 _ rfl).mono ?_;rintro e w4⟨rfl,rfl⟩;cases h34:pQ l 34 with
     |true=>
      obtain⟨r0,rfl⟩:=Gd h34;have q0:=Ab (NF HR.u.rs HA.u HR.u.lt);clear h34;go_wp2_with fail;refine q0.u.mono ?_;rintro e w5⟨hc,qb⟩;clear q0;rcases hc with⟨k,l1,b,q1,hs,rfl,qm,q9,z6⟩|⟨hs,rfl⟩
      .obtain rfl:b=⟨k.toArray⟩:=by rw[<-qm,Ě]
       have e0:((q1:Int)==0)=false:=by rw[beq_eq_false_iff_ne];omega
       have qj:=Ab (show pX (f+1) (34::r0)=some (uA k,l1) by rw[Pn,hs];rfl);have qh:=Ab q9;have qi:=Ab qb;clear hs q9 qm qb;go_wp2;go_ret2;refine⟨(HK.u.trans (Ac.of_below qi.u)).alloc _,Å ⟨uA k,l1,w5.1.size,q1,qj.u,rfl,qh.u,⟨w5.1.size,rfl,Ã HK.u.size qi.u.size,À (À (Å ⟨k,rfl,Ax _ _ _ rfl⟩))⟩,?_⟩⟩;show RB _ R t mo (tw || false) (far || false);rw[Ħ,Ħ];have qt:RB w5 R t mo tw far:=HR.u.blk (qi.u.block R HR.u.lt);exact(Ä _ _ _ qt.lt).trans qt
      .have HF:=Ab (B8.fail (o:=pX (f+1) (34::r0)) (f:=f+1) (tw:=tw) (far:=far) (by rw[Pn,hs];rfl) (HK.u.trans (Ac.of_below qb)) (HR.u.blk (qb.block R HR.u.lt)));clear hs qb;go_wp2;go_ret2;exact HF.u
     |false=>
      have qv:=Ab h34;clear h34;go_wp2_with fail;refine(Bx HR.u.rs HA.u 91 _ rfl).mono ?_;rintro e w5⟨rfl,rfl⟩;cases h91:pQ l 91 with
      |true=>
       obtain⟨r0,rfl⟩:=Gd h91;have q0:=Ab (Wr HV.u HR.u HA.u qf (by simpa using qr));clear h91;go_wp2_with fail;refine q0.u.mono ?_;rintro e w9 q4;have q5:=q4.up HK.u;obtain⟨a,qq,rfl⟩:=q5.form;have q7:=Ab q5;clear q5 q4 q0;go_wp2;go_ret2;exact q7.u
      |false=>
       have qw:=Ab h91;clear h91;go_wp2_with fail;refine(Bx HR.u.rs HA.u 123 _ rfl).mono ?_;rintro e w6⟨rfl,rfl⟩;cases h123:pQ l 123 with
       |true=>
        obtain⟨r0,rfl⟩:=Gd h123;have q0:=Ab (Un HV.u HR.u HA.u qf (by simpa using qr));clear h123;go_wp2_with fail;refine q0.u.mono ?_;rintro e w9 q4;have q5:=q4.up HK.u;obtain⟨a,qq,rfl⟩:=q5.form;have q7:=Ab q5;clear q5 q4 q0;go_wp2;go_ret2;exact q7.u
       |false=>
        have HF:=Ab (B8.fail (o:=pX (f+1) l) (f:=f+1) (tw:=tw) (far:=far) (VV f l qz.u HD.u qg.u qv.u qw.u h123) HK.u HR.u);clear h123;go_wp2;go_ret2;exact HF.u
theorem Wq(f:Nat):QO f:=by
 induction f with
 |zero=>intro R t mo tw far p l w _ _ _ h;omega
 |succ f ih=>exact Rk ih
