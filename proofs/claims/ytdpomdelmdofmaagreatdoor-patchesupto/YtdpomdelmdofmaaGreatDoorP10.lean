import Derived.Test.YtdpomdelmdofmaaGreatDoorP05
open Go.Lib renaming decodeN->AI
open Go.Proofs.Tryz renaming prog->AS
open Go renaming World->AT,Calls->A1
open Go.RowKit renaming intOf->A2,wrap64->A3
open Int renaming ofNat_lt->A4
set_option maxHeartbeats 16000000
set_option maxRecDepth 100000
namespace Go.Proofs.YtdpomdelmdofmaaGreatDoor
open Go.Proofs.Tryz Go.RowKit Go.Maps
variable{l r:By}{c a:UInt8}{w:AT}{R n b d k v x:Nat}
structure AtX(t:ByteArray)(p:Nat)(l:By):Prop where
 small:t.size<=8796093022208
 le:p<=t.size
 eq:t.data.toList.drop p=l
section
variable{t:ByteArray}{p:Nat}
theorem AtX.len(h:AtX t p l):l.length=t.size-p:=by rw[<-h.eq];simp
theorem AtX.lt(h:AtX t p (c::l)):p<t.size:=by
 have:=h.len;grind
theorem AtX.byte(h:AtX t p (c::l)):t[p]'h.lt=c:=by
 have h1:=h.eq;rw[DW t p h.lt]at h1;grind
theorem AtX.next(h:AtX t p (c::l)):AtX t (p+1) l:=
 ⟨h.small,h.lt,by have h1:=h.eq;rw[DW t p h.lt]at h1;grind⟩
theorem AtX.nil(h:AtX t p []):p=t.size:=by have h1:=h.len;have h2:=h.le;grind
theorem AtX.add(h:AtX t p l)(n:Nat)(hn:n<=l.length):AtX t (p+n) (l.drop n):=
 ⟨h.small,by have:=h.len;have:=h.le;omega,by rw[<-h.eq,ŉ]⟩
end
def RS(w:AT)(R:Nat)(t:ByteArray):Prop:=CeB w R 0=some (.string t)
theorem Bx{t:ByteArray}{p:Nat}(h:RS w R t)(ha:AtX t p l)(u:UInt8)(c:Int)(hc:c=u.toNat):
  A1 AS 126 #[PtB R,InB p,.int .u8 c] w λe w'=>e=.returned (.bool (pQ l u))/\w'=w:=by
 have c0:CeB w R 0=some (.string t):=h;clear h;cases l with
 |nil=>
  have hp:=ha.nil;have e1:¬p<t.size:=ζ;clear ha hp hc;go_enter func126,ntmps126;go_wp2;go_ret;exact⟨rfl,rfl⟩
 |cons d l=>
  have hlt:=ha.lt;have e1:decide ((p:Int)<(t.size:Int))=true:=ω;have e2:((t[p].toNat:Int)==c)=pQ (d::l) u:=by
   rw[ha.byte,hc,Cp,EQ,ī];grind
  have HE:=Ab e2;clear ha hc e2;go_enter func126,ntmps126;go_wp2_with fail;rw[<-HE.u];go_ret;simp_all
theorem ZP(b:UInt8):uD b=((((b.toNat:Int)==32) || ((b.toNat:Int)==9)) || ((b.toNat:Int)==10) || ((b.toNat:Int)==13)):=by
 unfold uD;rw[EQ,EQ,EQ,EQ,ī];grind
theorem CF{t:ByteArray}{p:Nat}(h:RS w R t)(ha:AtX t p l):
  A1 AS 92 #[PtB R,InB p] w λe w'=>(∃q:Nat,e=.returned (InB q)/\AtX t q (pR l))/\w'=w:=by
 have c0:CeB w R 0=some (.string t):=h;have HA:=Ab ha;clear h ha;go_enter func92,ntmps92;go_wp2;go_loopw [1] (λi wr=>∃(q:Nat) (l':By),i=InB q/\AtX t q l'/\pR l=pR l'/\wr=w) (λi _=>t.size-(A2 i).toNat)
 case atStart=>exact⟨p,l,rfl,HA.u,rfl,rfl⟩
 case round=>
  obtain⟨q,l',rfl,q4,q6,rfl⟩:=hrel;have HS:=Ab q6;have HQ:=Ab q4;cases l' with
  |nil=>
   have hp:=q4.nil;have e1:¬q<t.size:=ζ;clear q4 q6 hp;go_wp2;go_ret;exact⟨⟨q,rfl,by rw[HS.u];exact HQ.u⟩,rfl⟩
  |cons d l'=>
   have hlt:=q4.lt;have e1:decide ((q:Int)<(t.size:Int))=true:=ω;have hd:=ZP d;have q7:t[q]'hlt=d:=q4.byte;have hsz:=q4.small;cases hb:uD d with
   |false=>
    rw[hb]at hd;simp only[Bool.false_eq,Ĩ]at hd;rw[<-q7]at hd;obtain⟨⟨⟨b1,b2⟩,b3⟩,b4⟩:=hd;have HB:=Ab hb;clear q4 q6 q7 hb;go_wp2;go_ret;exact⟨⟨q,rfl,by rw[HS.u,pR,if_neg (by rw[HB.u];decide)];exact HQ.u⟩,rfl⟩
   |true=>
    rw[hb]at hd;have HB:=Ab hb;have q5:(∃(q':Nat) (l2:By),Value.int .i64 ((q:Int)+1)=InB q'/\AtX t q' l2/\pR l=pR l2/\True)/\t.size-(A2 (InB ((q:Int)+1))).toNat<t.size-(A2 (InB (q:Int))).toNat:=
     ⟨⟨q+1,l',ψ,q4.next,by rw[q6,pR,if_pos hb],trivial⟩,by simp[A2];omega⟩
    have q0:=Ab q5;have h4:d.toNat=32\/d.toNat=9\/d.toNat=10\/d.toNat=13:=by
     grind
    rw[<-q7]at h4;clear q4 q6 q7 hb hd q5;rcases h4 with h4|h4|h4|h4
    .have b1:((t[q].toNat:Int)==32)=true:=ε;clear h4;go_wp2;exact q0.u
    .have b1:((t[q].toNat:Int)==32)=false:=ε;have b2:((t[q].toNat:Int)==9)=true:=ε;clear h4;go_wp2;exact q0.u
    .have b1:((t[q].toNat:Int)==32)=false:=ε;have b2:((t[q].toNat:Int)==9)=false:=ε;have b3:((t[q].toNat:Int)==10)=true:=ε;clear h4;go_wp2;exact q0.u
    .have b1:((t[q].toNat:Int)==32)=false:=ε;have b2:((t[q].toNat:Int)==9)=false:=ε;have b3:((t[q].toNat:Int)==10)=false:=ε;have b4:((t[q].toNat:Int)==13)=true:=ε;clear h4;go_wp2;exact q0.u
def tW(l:By):Bool:=match l with
 |[]=>false
 |c::_=>qW c
theorem CI(c:UInt8):qW c=true<->48<=c.toNat/\c.toNat<=57:=by
 grind [qW]
theorem IP{t:ByteArray}{p:Nat}(h:RS w R t)(ha:AtX t p l):
  A1 AS 125 #[PtB R,InB p] w λe w'=>e=.returned (.bool (tW l))/\w'=w:=by
 have c0:CeB w R 0=some (.string t):=h;clear h;cases l with
 |nil=>
  have hp:=ha.nil;have e1:¬p<t.size:=ζ;clear ha hp;go_enter func125,ntmps125;go_wp2;go_ret;exact⟨rfl,rfl⟩
 |cons d l=>
  have hlt:=ha.lt;have q0:t[p]'hlt=d:=ha.byte;have hd:=CI d;rw[<-q0]at hd;have HD:Hid (tW (d::l)=qW (t[p]'hlt)):=by rw[q0];rfl
  clear ha q0;cases hb:qW (t[p]'hlt)with
  |true=>
   obtain⟨h1,h2⟩:=hd.1 hb;have f1:(48:Int)<=(t[p].toNat:Int):=ζ;have f2:(t[p].toNat:Int)<=57:=ζ;have HB:=Ab hb;clear hd hb;go_enter func125,ntmps125;go_wp2;go_ret;exact⟨by rw[HD.u,HB.u];rfl,rfl⟩
  |false=>
   have h3:¬(48<=t[p].toNat/\t[p].toNat<=57):=ε;have HB:=Ab hb;by_cases h1:48<=t[p].toNat
   .have h2:decide ((t[p].toNat:Int)<=57)=false:=by
     grind
    clear hd hb h3;go_enter func125,ntmps125;go_wp2;go_ret;exact⟨by rw[HD.u,HB.u];rfl,rfl⟩
   .clear hd hb h3;go_enter func125,ntmps125;go_wp2;go_ret;exact⟨by rw[HD.u,HB.u];rfl,rfl⟩
theorem En{t:ByteArray}{p:Nat}(h:RS w R t)(ha:AtX t p l):
  A1 AS 170 #[PtB R,.int .i64 p] w λe w'=>e=.returned (.int .i64 ((p+(dg l).length:Nat):Int))/\w'=w:=by
 have HS:=Ab h;have HA:=Ab ha;clear h ha;go_enter func170,ntmps170;go_wp2_with fail;refine(IP HS.u HA.u).mono ?_;rintro e w' ⟨rfl,rfl⟩;go_wp2;go_loopw [1,5] (λi m wr=>∃(q:Nat) (l':By),i=.int .i64 q/\m=.bool (tW l')/\AtX t q l'/\p+(dg l).length=q+(dg l').length/\wr=w') (λi _ _=>t.size-(A2 i).toNat)
 case atStart=>exact⟨p,l,rfl,rfl,HA.u,rfl,rfl⟩
 case round=>
  obtain⟨q,l',rfl,rfl,q0,q4,rfl⟩:=hrel;have q5:=Ab q4;have HQ:=Ab q0;cases l' with
  |nil=>
   have e1:tW []=false:=rfl;clear q0 q4;go_wp2;go_ret;exact⟨by rw[q5.u];rfl,rfl⟩
  |cons d l'=>
   have hlt:=q0.lt;have hsz:=q0.small;cases hb:tW (d::l')with
   |false=>
    have HB:=Ab hb;clear q0 q4 hb;go_wp2;go_ret;refine⟨?_,rfl⟩;rw[q5.u,dg,if_neg (by rw[show qW d=tW (d::l')from rfl,HB.u];decide)];rfl
   |true=>
    have HB:=Ab hb;clear q0 q4 hb;go_wp2_with fail;refine(IP HS.u (AtX.next HQ.u)).mono ?_;rintro e w2⟨rfl,rfl⟩;go_wp2;exact⟨⟨q+1,l',ψ,rfl,HQ.u.next,by
     rw[q5.u,dg,if_pos (by rw[show qW d=tW (d::l')from rfl];exact HB.u),É];omega,trivial⟩,by simp[A2];omega⟩
def sT:Nat->Nat->By->Option Nat
 |0,v,_=>some v
 |_+1,_,[]=>none
 |k+1,v,c::r=>if 128<=c.toNat/\c.toNat<192 then sT k (64*v+c.toNat-128) r else none
def sN(c:Nat):Nat×Nat:=
 if 240<=c/\c<248 then(4,c-240)else if 224<=c/\c<240 then(3,c-224)else if 192<=c/\c<224 then(2,c-192)else if 128<=c then(0,0)else(1,c)
def uH(n:Nat):Nat:=if n=2 then 128 else if n=3 then 2048 else if n=4 then 65536 else 0
def rG(l:By):Nat×Nat:=match l with
 |[]=>(0,0)
 |c::r=>if(sN c.toNat).1=0\/r.length+1<(sN c.toNat).1 then(0,0)else match sT ((sN c.toNat).1-1) (sN c.toNat).2 r with
  |none=>(0,0)
  |some v=>if v<uH (sN c.toNat).1\/1114111<v\/(55296<=v/\v<57344)then(0,0)else(v,(sN c.toNat).1)
def Hv(s d:Nat×Nat):Prop:=((d.1=65533/\d.2<2)/\s=(0,0))\/(¬(d.1=65533/\d.2<2)/\s=d)
theorem ZD{c:Nat}(h:c<128):sN c=(1,c):=by grind [sN]
theorem GH{c:Nat}(h:192<=c/\c<224):sN c=(2,c-192):=by grind [sN]
theorem E4{c:Nat}(h:224<=c/\c<240):sN c=(3,c-224):=by grind [sN]
theorem DU{c:Nat}(h:240<=c/\c<248):sN c=(4,c-240):=by grind [sN]
theorem gH{c:Nat}(h:(128<=c/\c<192)\/248<=c):sN c=(0,0):=by grind [sN]
theorem Sb(h:a.toNat<128):rG (a::r)=(a.toNat,1):=by
 simp[rG,ZD h,sT,uH];omega
theorem VQ(h:(128<=a.toNat/\a.toNat<192)\/248<=a.toNat):rG (a::r)=(0,0):=by
 simp[rG,gH h]
theorem Nu(h:r.length+1<(sN a.toNat).1):rG (a::r)=(0,0):=by
 unfold rG;grind
theorem iP{a c:Nat}(h:192<=a/\a<224)(_:b<256)(hn:1<n):Hv (if 128<=b/\b<192 then(if 64*(a-192)+b-128<128 then(0,0)else(64*(a-192)+b-128,2))else(0,0)) (AI n a b c d):=by
 unfold AI Hv;grind
theorem XG{a c:Nat}(h:224<=a/\a<240)(_:b<256)(_:c<256)(hn:2<n):
  Hv (if(128<=b/\b<192)/\(128<=c/\c<192)then(if 64*(64*(a-224)+b-128)+c-128<2048\/(55296<=64*(64*(a-224)+b-128)+c-128/\64*(64*(a-224)+b-128)+c-128<57344)then(0,0)else(64*(64*(a-224)+b-128)+c-128,3))else(0,0)) (AI n a b c d):=by
 unfold AI Hv;grind
theorem bI{a c:Nat}(h:240<=a/\a<248)(_:b<256)(_:c<256)(_:d<256)(hn:3<n):
  Hv (if(128<=b/\b<192)/\(128<=c/\c<192)/\(128<=d/\d<192)then(if 64*(64*(64*(a-240)+b-128)+c-128)+d-128<65536\/1114111<64*(64*(64*(a-240)+b-128)+c-128)+d-128 then(0,0)else(64*(64*(64*(a-240)+b-128)+c-128)+d-128,4))else(0,0)) (AI n a b c d):=by
 unfold AI Hv;grind
theorem eY{b:UInt8}(h:192<=a.toNat/\a.toNat<224):rG (a::b::r)=(if 128<=b.toNat/\b.toNat<192 then(if 64*(a.toNat-192)+b.toNat-128<128 then(0,0)else(64*(a.toNat-192)+b.toNat-128,2))else(0,0)):=by
 by_cases hb:128<=b.toNat/\b.toNat<192
 .by_cases hv:64*(a.toNat-192)+b.toNat-128<128
  .simp[rG,GH h,sT,uH,hb,hv]
  .have h2:¬1114111<64*(a.toNat-192)+b.toNat-128:=ζ;have h3:¬55296<=64*(a.toNat-192)+b.toNat-128:=ζ;simp[rG,GH h,sT,uH,hb,hv,h2,h3]
 .simp[rG,GH h,sT,hb]
theorem VP{b:UInt8}(h:224<=a.toNat/\a.toNat<240):rG (a::b::c::r) =
  (if(128<=b.toNat/\b.toNat<192)/\(128<=c.toNat/\c.toNat<192)then(if 64*(64*(a.toNat-224)+b.toNat-128)+c.toNat-128<2048\/(55296<=64*(64*(a.toNat-224)+b.toNat-128)+c.toNat-128/\64*(64*(a.toNat-224)+b.toNat-128)+c.toNat-128<57344)then(0,0)else(64*(64*(a.toNat-224)+b.toNat-128)+c.toNat-128,3))else(0,0)):=by
 by_cases hb:128<=b.toNat/\b.toNat<192
 .by_cases hc:128<=c.toNat/\c.toNat<192
  .have h2:¬1114111<64*(64*(a.toNat-224)+b.toNat-128)+c.toNat-128:=ζ;simp[rG,E4 h,sT,uH,hb,hc,h2];omega
  .simp[rG,E4 h,sT,hb,hc]
 .simp[rG,E4 h,sT,hb]
theorem YG{b d:UInt8}(h:240<=a.toNat/\a.toNat<248):rG (a::b::c::d::r) =
  (if(128<=b.toNat/\b.toNat<192)/\(128<=c.toNat/\c.toNat<192)/\(128<=d.toNat/\d.toNat<192)then(if 64*(64*(64*(a.toNat-240)+b.toNat-128)+c.toNat-128)+d.toNat-128<65536\/1114111<64*(64*(64*(a.toNat-240)+b.toNat-128)+c.toNat-128)+d.toNat-128 then(0,0)else(64*(64*(64*(a.toNat-240)+b.toNat-128)+c.toNat-128)+d.toNat-128,4))else(0,0)):=by
 by_cases hb:128<=b.toNat/\b.toNat<192
 .by_cases hc:128<=c.toNat/\c.toNat<192
  .by_cases hd:128<=d.toNat/\d.toNat<192
   .by_cases hv:64*(64*(64*(a.toNat-240)+b.toNat-128)+c.toNat-128)+d.toNat-128<65536
    .simp[rG,DU h,sT,uH,hb,hc,hd,hv]
    .have h3:¬64*(64*(64*(a.toNat-240)+b.toNat-128)+c.toNat-128)+d.toNat-128<57344:=ζ;simp[rG,DU h,sT,uH,hb,hc,hd,hv,h3];omega
   .simp[rG,DU h,sT,hb,hc,hd]
  .simp[rG,DU h,sT,hb,hc]
 .simp[rG,DU h,sT,hb]
theorem KI{a c:Nat}(h:(128<=a/\a<192)\/248<=a\/(192<=a/\n<2)\/(224<=a/\n<3)\/(240<=a/\n<4))(_:a<256):AI n a b c d=(65533,1):=by
 grind [AI]
theorem iQ{a c:Nat}(h:a<128):AI n a b c d=(a,1):=by
 grind [AI]
theorem Hr:Hv (0,0) (65533,1):=Å ⟨⟨rfl,η⟩,rfl⟩
theorem VR(a:UInt8)(r:By):Hv (rG (a::r)) (rC (a::r)):=by
 have ha:=a.toNat_lt;rw[Dt _ φ];simp only[ľ,List.getD_cons_succ,É];by_cases h1:a.toNat<128
 .rw[Sb h1,iQ h1];exact À ε
 .by_cases h2:(128<=a.toNat/\a.toNat<192)\/248<=a.toNat
  .rw[VQ h2,KI ζ ζ];exact Hr
  .by_cases h3:r.length+1<(sN a.toNat).1
   .rw[Nu h3];by_cases c2:a.toNat<224
    .rw[GH ζ]at h3;rw[KI ζ ζ];exact Hr
    .by_cases c3:a.toNat<240
     .rw[E4 ζ]at h3;rw[KI ζ ζ];exact Hr
     .rw[DU ζ]at h3;rw[KI ζ ζ];exact Hr
   .by_cases c2:a.toNat<224
    .rw[GH ζ]at h3
     match r,h3 with
     |b::r,_=>
      rw[eY ζ];exact iP ζ (Ŋ _) φ
     |[],h3=>simp at h3
    .by_cases c3:a.toNat<240
     .rw[E4 ζ]at h3
      match r,h3 with
      |b::c::r,_=>
       rw[VP ζ];exact XG ζ (Ŋ _) (Ŋ _) φ
      |[_],h3=>simp at h3
      |[],h3=>simp at h3
     .rw[DU ζ]at h3
      match r,h3 with
      |b::c::d::r,_=>
       rw[YG ζ];exact bI ζ (Ŋ _) (Ŋ _) (Ŋ _) φ
      |[_,_],h3=>simp at h3
      |[_],h3=>simp at h3
      |[],h3=>simp at h3
theorem YF{v0:Nat}(hl:sN a.toNat=(n,v0))(h:¬(n=0\/r.length+1<n)):rG (a::r)=match sT (n-1) v0 r with
  |none=>(0,0)
  |some v=>if v<uH n\/1114111<v\/(55296<=v/\v<57344)then(0,0)else(v,n):=by
 unfold rG;grind
theorem iV(h:¬(128<=c.toNat/\c.toNat<192)):sT (k+1) v (c::r)=none:=by
 rw[sT,if_neg h]
theorem mH(h:128<=c.toNat/\c.toNat<192):sT (k+1) v (c::r)=sT k (64*v+c.toNat-128) r:=by
 rw[sT,if_pos h]
theorem pK(h:x<n):decide ((x:Int)<(n:Int))=true:=decide_eq_true (A4.2 h)
theorem oP(h:¬x<n):decide ((x:Int)<(n:Int))=false:=decide_eq_false (λk=>h (A4.1 k))
theorem oN(h:1114111<x):decide ((1114111:Int)<(x:Int))=true:=decide_eq_true ζ
theorem oO(h:¬1114111<x):decide ((1114111:Int)<(x:Int))=false:=decide_eq_false ζ
theorem oL(h:55296<=x):decide ((55296:Int)<=(x:Int))=true:=decide_eq_true ζ
theorem oM(h:¬55296<=x):decide ((55296:Int)<=(x:Int))=false:=decide_eq_false ζ
theorem oJ(h:x<57344):decide ((x:Int)<57344)=true:=decide_eq_true ζ
theorem oK(h:¬x<57344):decide ((x:Int)<57344)=false:=decide_eq_false ζ
def bdn(n k:Nat):Nat:=(if n=1 then 128 else if n=2 then 32 else if n=3 then 16 else 8)*64 ^ (k-1)
theorem bY(hk:1<=k)(h:x<bdn n k)(hd:d<192):64*x+d-128<bdn n (k+1):=by
 have e:bdn n (k+1)=64*bdn n k:=by
  unfold bdn;rw[show k+1-1=(k-1)+1 from ζ,Nat.pow_succ,<-Nat.mul_assoc,Nat.mul_comm]
 omega
theorem jA:∀n:Fin 5,∀k:Fin 5,k.val<=n.val->1<=n.val->bdn n.val k.val<=2097152:=η
theorem mK(h:k<=n)(hn:n<=4:=by decide)(h1:1<=n:=by decide):bdn n k<=2097152:=jA ⟨n,ζ⟩ ⟨k,ζ⟩ h h1
def Dm(l:By)(w:AT)(e:Ending)(w':AT):Prop:=e=.returned (.tuple #[InB ((rG l).1:Nat),InB ((rG l).2:Nat)])/\Bl w w'
theorem Dm.mk{w':AT}{a b:Int}(h:rG l=(a.toNat,b.toNat))(ha:0<=a)(hb:0<=b)(hw:Bl w w'):Dm l w (.returned (.tuple #[InB a,InB b])) w':=by
 refine⟨?_,hw⟩;grind
theorem Bj{w':AT}(e:w'.1=w.1:=by rfl)(e1:w'.os=w.os:=by rfl)(e2:w'.tape=w.tape:=by rfl)(e3:w'.output=w.output:=by rfl):Bl w w':=
 ⟨e1,e2,e3,ε,λk _=>by rw[e]⟩
theorem Rb{t:ByteArray}{p:Nat}(ha:AtX t p [])(w:AT):A1 AS 124 #[.string t,InB p] w λe w'=>Dm [] w e w':=by
 have hp:=ha.nil;have e1:t.size<=p:=ζ;clear ha hp;go_enter func124,ntmps124;go_wp2;go_ret2;exact Dm.mk (a:=0) (b:=0) rfl ζ ζ Bj
theorem T8{t:ByteArray}{p:Nat}(ha:AtX t p (c::r))(hc:(128<=c.toNat/\c.toNat<192)\/248<=c.toNat)(w:AT):
  A1 AS 124 #[.string t,InB p] w λe w'=>Dm (c::r) w e w':=by
 have hlt:=ha.lt;have q0:t[p]'hlt=c:=ha.byte;have HS:=Ab (VQ (r:=r) hc);rw[<-q0]at hc;have e1:¬t.size<=p:=ζ;have q4:A3 ((t[p]'hlt).toNat:Int)=((t[p]'hlt).toNat:Int):=by unfold A3;have:=(t[p]'hlt).toNat_lt;omega
 have f4:decide ((128:Int)<=(t[p].toNat:Int))=true:=ω;clear ha q0;rcases hc with⟨h1,h2⟩|h1
 .have f1:decide ((240:Int)<=(t[p].toNat:Int))=false:=ω;have f2:decide ((224:Int)<=(t[p].toNat:Int))=false:=ω;have f3:decide ((192:Int)<=(t[p].toNat:Int))=false:=ω;clear h1 h2;go_enter func124,ntmps124;go_wp2;go_ret2;exact Dm.mk (a:=0) (b:=0) HS.u ζ ζ Bj
 .have f1:decide ((240:Int)<=(t[p].toNat:Int))=true:=ω;have f5:decide ((t[p].toNat:Int)<248)=false:=ω;have f2:decide ((224:Int)<=(t[p].toNat:Int))=true:=ω;have f6:decide ((t[p].toNat:Int)<240)=false:=ω;have f3:decide ((192:Int)<=(t[p].toNat:Int))=true:=ω;have f7:decide ((t[p].toNat:Int)<224)=false:=ω;clear h1;go_enter func124,ntmps124;go_wp2;go_ret2;exact Dm.mk (a:=0) (b:=0) HS.u ζ ζ Bj
theorem gI{c:Nat}(h:sN c=(n,v))(hn:1<=n)(hc:c<256):((n=1/\v=c/\c<128)\/(n=2/\v=c-192/\192<=c/\c<224)\/(n=3/\v=c-224/\224<=c/\c<240)\/(n=4/\v=c-240/\240<=c/\c<248))/\v<bdn n 1:=by
 have h2:(n=1/\v=c/\c<128)\/(n=2/\v=c-192/\192<=c/\c<224)\/(n=3/\v=c-224/\224<=c/\c<240)\/(n=4/\v=c-240/\240<=c/\c<248):=by grind [sN]
 refine⟨h2,?_⟩;rcases h2 with⟨rfl,h⟩|⟨rfl,h⟩|⟨rfl,h⟩|⟨rfl,h⟩<;>simp[bdn]<;>omega
theorem Pq{t:ByteArray}{p v0:Nat}(ha:AtX t p (c::r))(q4:sN c.toNat=(n,v0))(hn:1<=n)(w:AT):
  A1 AS 124 #[.string t,InB p] w λe w'=>Dm (c::r) w e w':=by
 have hlt:=ha.lt;have qo:t[p]'hlt=c:=ha.byte;have q5:=ha.len;have za:=ha.small;have e1:¬t.size<=p:=ζ;have qk:t[p].toNat<256:=(t[p]'hlt).toNat_lt;have qu:A3 ((t[p]'hlt).toNat:Int)=((t[p]'hlt).toNat:Int):=by unfold A3;omega
 have qq:c.toNat=t[p].toNat:=by rw[qo]
 obtain⟨qg,qt⟩:=gI q4 hn ζ;have z1:n<=4:=ζ;have HN:=Ab ha.next;have q7:=Ab q4;rw[qq]at qg;have qv:=Ab qg;have HV:=Ab qt;clear ha q4 qo qq qg qt;go_enter func124,ntmps124;go_upto_block 0 with(fail)
 go_cut [7,8] (λs7 s8 wx=>s7=InB n/\s8=InB v0/\wx=w)
 case first=>
  rcases qv.u with⟨rfl,rfl,h⟩|⟨rfl,rfl,h,k⟩|⟨rfl,rfl,h,k⟩|⟨rfl,rfl,h,k⟩
  .have f0:decide ((240:Int)<=(t[p].toNat:Int))=false:=ω;have f1:decide ((224:Int)<=(t[p].toNat:Int))=false:=ω;have f2:decide ((192:Int)<=(t[p].toNat:Int))=false:=ω;have f3:decide ((128:Int)<=(t[p].toNat:Int))=false:=ω;go_wp2;go_meet;exact⟨rfl,rfl,rfl⟩
  .have f0:decide ((240:Int)<=(t[p].toNat:Int))=false:=ω;have f1:decide ((224:Int)<=(t[p].toNat:Int))=false:=ω;have f2:decide ((192:Int)<=(t[p].toNat:Int))=true:=ω;have f3:decide ((t[p].toNat:Int)<224)=true:=ω;go_wp2;go_meet;exact⟨rfl,by congr 1;omega,rfl⟩
  .have f0:decide ((240:Int)<=(t[p].toNat:Int))=false:=ω;have f1:decide ((224:Int)<=(t[p].toNat:Int))=true:=ω;have f2:decide ((t[p].toNat:Int)<240)=true:=ω;go_wp2;go_meet;exact⟨rfl,by congr 1;omega,rfl⟩
  .have f0:decide ((240:Int)<=(t[p].toNat:Int))=true:=ω;have f1:decide ((t[p].toNat:Int)<248)=true:=ω;go_wp2;go_meet;exact⟨rfl,by congr 1;omega,rfl⟩
 case rest=>
 obtain⟨rfl,rfl,rfl⟩:=hcut;by_cases hs:r.length+1<n
 .have HS:=Ab (Nu (a:=c) (r:=r) (by rw[q7.u];exact hs));have e2:(t.size:Int)<(p:Int)+(n:Int):=by simp only[É]at q5;omega
  clear hs q5;go_wp2;go_ret2;exact Dm.mk (a:=0) (b:=0) HS.u ζ ζ Bj
 .have HS:=Ab (YF (r:=r) q7.u ζ);have e2:¬(t.size:Int)<(p:Int)+(n:Int):=by simp only[É]at q5;omega
  have qw:=Ab hs;clear hs q5;go_wp2;go_loopw [8,9] (λv i wr=>∃(k x:Nat) (r':By),1<=k/\k<=n/\i=InB k/\v=InB x/\AtX t (p+k) r'/\sT (n-1) v0 r=sT (n-k) x r'/\x<bdn n k/\n-k<=r'.length/\wr=wc) (λ_ i _=>n-(A2 i).toNat)
  case atStart=>exact⟨1,v0,r,ζ,hn,rfl,rfl,HN.u,rfl,HV.u,by have:=qw.u;omega,rfl⟩
  case round=>
   obtain⟨k,x,r',qz,hk2,rfl,rfl,q8,q0,qb,q6,rfl⟩:=hrel;have hx:x<2097152:=Õ qb (mK hk2 z1 hn);have qd:=Ab q8;have q9:=Ab q0;have qy:=Ab qb;by_cases z0:k<n
   .match r',q8,q0,q6,qd,q9 with
    |[],_,_,q6,_,_=>exact absurd q6 (by simp only[á];omega)
    |d::r'',q8,q0,q6,qd,q9=>
     have hq:=q8.lt;obtain⟨q,qh⟩:∃q,q=p+k:=⟨_,rfl⟩
     rw[<-qh]at hq;have z9:(p:Int)+(k:Int)=(q:Int):=ζ;have qn:t[q]'hq=d:=by
      have:=q8.byte;grind
     have qe:=Ab qn;have z6:=Ab qh;have z8:t[q].toNat<256:=(t[q]'hq).toNat_lt;have zb:A3 ((t[q]'hq).toNat:Int)=((t[q]'hq).toNat:Int):=by unfold A3;omega
     have qf:=Ab q6;clear q8 q0 q6 qn qh qb e2 qu qk e1;by_cases g1:128<=t[q].toNat/\t[q].toNat<192
     .have g2:decide ((t[q].toNat:Int)<128)=false:=ω;have g3:decide ((192:Int)<=(t[q].toNat:Int))=false:=ω;go_wp2_with fail;have q6:=qf.u;refine⟨⟨k+1,64*x+t[q].toNat-128,r'',ζ,ζ,ψ,?_,qd.u.next,?_,bY qz qy.u ζ,by simp only[É]at q6;omega,trivial⟩,by simp only[A2];omega⟩
      .grind
      .rw[q9.u,show n-k=n-(k+1)+1 from ζ,mH (by rw[<-qe.u];omega),qe.u]
     .have HB:=Ab (show rG (c::r)=(0,0) by rw[HS.u,q9.u,show n-k=n-k-1+1 from ζ,iV (by rw[<-qe.u];omega)]);have hq:decide ((t[q].toNat:Int)<128)=true\/(decide ((t[q].toNat:Int)<128)=false/\decide ((192:Int)<=(t[q].toNat:Int))=true):=ω;rcases hq with g2|⟨g2,g3⟩;all_goals (
       clear g1;go_wp2;go_ret2;exact Dm.mk (a:=0) (b:=0) HB.u ζ ζ Bj)
   .obtain rfl:k=n:=ζ;have qr:rG (c::r)=if x<uH k\/1114111<x\/(55296<=x/\x<57344)then(0,0)else(x,k):=by
     rw[HS.u,q0,ő];rfl
    have qj:=Ab qr;have qm:Bl wr (wr.alloc (.cells #[InB 0,InB 0,InB 128,InB 2048,InB 65536] 3)):=(Â _ _).alloc (Á _) _;have z7:(wr.alloc (.cells #[InB 0,InB 0,InB 128,InB 2048,InB 65536] 3)).cell? ⟨wr.1.size,k,none⟩=some (InB (uH k:Nat)):=by
     have h4:k=1\/k=2\/k=3\/k=4:=ζ;simp only[World.cell?,Ax];rcases h4 with rfl|rfl|rfl|rfl<;>rfl
    have qi:=Ab qm;generalize uH k=ls at*;clear q8 q0 q6 qb qr qm e2 qu qk e1 z0 hk2;go_upto_region 27 with(fail)
    generalize wr.alloc (.cells #[InB 0,InB 0,InB 128,InB 2048,InB 65536] 3)=wA at*;have HA:=Ab (λh=>Dm.mk (l:=c::r) (w:=wr) (w':=wA) (a:=0) (b:=0) (by rw[qj.u,if_pos h];rfl) ζ ζ qi.u);have HB:=Ab (λh=>Dm.mk (l:=c::r) (w:=wr) (w':=wA) (a:=x) (b:=k) (by rw[qj.u,if_neg h];rfl) ζ ζ qi.u);by_cases y1:x<ls
    .have z2:=pK y1;go_wp2;go_ret2;exact HA.u (Å y1)
    have z2:=oP y1;by_cases y2:1114111<x
    .have z3:=oN y2;go_wp2;go_ret2;exact HA.u (À (Å y2))
    have z3:=oO y2;by_cases y3:55296<=x
    .have z4:=oL y3;by_cases y4:x<57344
     .have z5:=oJ y4;go_wp2;go_ret2;exact HA.u ζ
     .have z5:=oK y4;go_wp2;go_ret2;exact HB.u ζ
    .have z4:=oM y3;go_wp2;go_ret2;exact HB.u ζ
theorem JR{t:ByteArray}{p:Nat}(ha:AtX t p l)(w:AT):A1 AS 124 #[.string t,InB p] w λe w'=>Dm l w e w':=by
 cases l with
 |nil=>exact Rb ha w
 |cons c r=>
  by_cases h1:(sN c.toNat).1=0
  .exact T8 ha (by grind [sN]) w
  .exact Pq ha rfl (Nat.pos_of_ne_zero h1) w
structure vT where
 p:By
 kq:By
 p1:By
 p2:By
 x:By
 q:By
 key:By
 v:pL
def vT.core(m:vT):By:=m.kq++(m.p1++58::(m.p2++m.x))
