import Derived.Test.YtdpomdelmdofmaaGreatDoorP10
import Derived.Test.YtdpomdelmdofmaaGreatDoorP07
import Derived.Test.YtdpomdelmdofmaaGreatDoorP12
open Go.Proofs.Tryz renaming prog->AI
open Go renaming World->AS,DataW->Bs,Value->B1,Calls->B2,madeCells->CL,maxLen->DD,wpList_next_ranges->D6,wpList_range_own->Ft,wpList_load_row->F2
open Go.Instr renaming index->AT,makeMap->HJ
open Go.Lib renaming hasPrefix->A1,encodeRune->CD,index->CH,decodeN->C2,trimLeftB->D3,trimRightB->HG,cut->HT
open Go.RowKit renaming wrap64->A2,intOf->CR
open Go.Maps renaming has->A3,Canon->B4,has_put_other->C6,has_true_of_atKey->E1,atKey_put_other->G2
open List renaming length_append->A4,drop_succ_cons->B3,replicate->C0,length_cons->DA,length_nil->D0
open Go.DataW renaming map->A5,held->H3
open Go.Region renaming ready->BY,binds->E2,Mode->HW
open Go.Value renaming pointer->C5,cells->HZ,int->H4
open Nat renaming reduceAdd->D1
open Go.World renaming ownsMap_made->D9
open Prod renaming fst->E0,snd->H1
open Go.WideAt renaming IsKeyLit->F5
open Array renaming replicate->G3
open UInt8 renaming ofNat->H2
set_option maxRecDepth 100000
set_option maxHeartbeats 8000000
namespace Go.Proofs.YtdpomdelmdofmaaGreatDoor
open Go.Proofs.Tryz Go.RowKit Go.Maps
variable{l:Array Bool}{t:ByteArray}{p k n m j f cnt i:Nat}{c:UInt8}{r s:By}{w' wr:AS}{es:List (Lit×pL)}{sl:B1}{F:Nat->Prop}{left:Lit->Bool}{d lv:Int}{x:By×Bool×Bool}{v e:pL}{md:HW}{ops:Array Oper}
theorem kE(l:By):(rG l).2<=l.length:=by
 cases l with
 |nil=>simp[rG]
 |cons c r=>
  unfold rG;grind
def tA(l:By):Bool:=if _h:l=[]then true else if _h2:(rG l).2=0 then false else tA (l.drop (rG l).2)
termination_by l.length
decreasing_by
 have:0<l.length:=Ē.2 _h;rw[Ŏ];omega
theorem O8:tA []=true:=by grind [tA]
theorem cV{l:By}(h:l≠[])(h2:(rG l).2=0):tA l=false:=by rw[tA];grind
theorem OR{l:By}(h:l≠[])(h2:¬(rG l).2=0):tA l=tA (l.drop (rG l).2):=by
 rw[tA];grind
theorem IM(t:ByteArray)(hs:t.size<=8796093022208)(w:AS):
  CB 90 #[.string t] w (.bool (tA t.data.toList)):=by
 have ha:AtX t 0 t.data.toList:=⟨hs,Ď _,φ⟩
 have HA:=Ab ha;clear ha;go_enter func90,ntmps90;go_wp2;go_loopw [3] (λi wr=>∃(q:Nat) (l':By),i=InB q/\AtX t q l'/\tA t.data.toList=tA l'/\Bl w wr) (λi _=>t.size-(CR i).toNat)
 case atStart=>exact⟨0,_,rfl,HA.u,rfl,Bj⟩
 case round=>
  obtain⟨q,l',rfl,q0,hu,q4⟩:=hrel;have HU:=Ab hu;have HQ:=Ab q0;have HB:=Ab q4;cases l' with
  |nil=>
   have hp:=q0.nil;have e1:¬q<t.size:=ζ;clear q0 hu q4 hp;go_wp2;go_ret;exact⟨by rw[HU.u,O8];rfl,BZ HB.u⟩
  |cons d l'=>
   have e1:=q0.lt;have qb:=kE (d::l');have q5:=q0.len;have hsz:=q0.small;have q8:=Ab qb;have q9:=Ab q5;clear q0 hu q4 qb q5;go_wp2_with fail;refine(JR HQ.u _).mono ?_;rintro x w2⟨rfl,hb2⟩;have q7:=Ab (HB.u.trans (hb2.mono HB.u.size));generalize qd:rG (d::l')=vn at*;obtain⟨v,n⟩:=vn;have q6:=Ab qd;clear hb2 qd;by_cases hn:n=0
   .subst hn;go_wp2;go_ret;exact⟨by rw[HU.u,cV φ (by rw[q6.u])];rfl,BZ q7.u⟩
   .have qe:((n:Int)==0)=false:=ω;have qf:n<=8796093022208:=by have h1:=q8.u;have h2:=q9.u;omega
    have HN:=Ab hn;clear hn;go_wp2_with fail;have h1:=q8.u;have h2:=q9.u;have h3:=HN.u;exact⟨⟨q+n,(d::l').drop n,ψ,HQ.u.add n h1,by rw[HU.u,OR φ (by rw[q6.u];exact h3),q6.u],BZ q7.u⟩,by simp only[CR];omega⟩
def sD(c:Nat):Int:=match Ci c with
 |some n=>(n:Int)
 |none=>-1
theorem kO(c:Nat)(h:48<=c/\c<=57)(w:AS):B2 AI 255 #[.int .u8 c] w λe w'=>e=.returned (InB (sD c))/\w'=w:=by
 have e:sD c=(c:Int)-48:=by
  grind [sD,Ci,A2]
 have HE:=Ab e;have hw:A2 (c:Int)=c:=by unfold A2;omega
 have f0:decide ((48:Int)<=(c:Int))=true:=decide_eq_true ζ;have f1:decide ((c:Int)<=57)=true:=decide_eq_true ζ;clear e;go_enter func255,ntmps255;go_wp2;go_ret;exact⟨by rw[HE.u];rfl,rfl⟩
theorem kM(c:Nat)(h:97<=c/\c<=102)(w:AS):B2 AI 255 #[.int .u8 c] w λe w'=>e=.returned (InB (sD c))/\w'=w:=by
 have e:sD c=(c:Int)-97+10:=by
  grind [sD,Ci,A2]
 have HE:=Ab e;have hw:A2 (c:Int)=c:=by unfold A2;omega
 have f0:decide ((48:Int)<=(c:Int))=true:=decide_eq_true ζ;have f1:decide ((c:Int)<=57)=false:=ε;have f2:decide ((97:Int)<=(c:Int))=true:=decide_eq_true ζ;have f3:decide ((c:Int)<=102)=true:=decide_eq_true ζ;clear e;go_enter func255,ntmps255;go_wp2;go_ret;exact⟨by rw[HE.u];rfl,rfl⟩
theorem kL(c:Nat)(h:65<=c/\c<=70)(w:AS):B2 AI 255 #[.int .u8 c] w λe w'=>e=.returned (InB (sD c))/\w'=w:=by
 have e:sD c=(c:Int)-65+10:=by
  grind [sD,Ci,A2]
 have HE:=Ab e;have hw:A2 (c:Int)=c:=by unfold A2;omega
 have f0:decide ((48:Int)<=(c:Int))=true:=decide_eq_true ζ;have f1:decide ((c:Int)<=57)=false:=ε;have f2:decide ((97:Int)<=(c:Int))=false:=ε;have f3:decide ((65:Int)<=(c:Int))=true:=decide_eq_true ζ;have f4:decide ((c:Int)<=70)=true:=decide_eq_true ζ;clear e;go_enter func255,ntmps255;go_wp2;go_ret;exact⟨by rw[HE.u];rfl,rfl⟩
theorem kK(c:Nat)(h:c<48)(w:AS):B2 AI 255 #[.int .u8 c] w λe w'=>e=.returned (InB (sD c))/\w'=w:=by
 have e:sD c = -1:=by
  grind [sD,Ci,A2]
 have HE:=Ab e;have hw:A2 (c:Int)=c:=by unfold A2;omega
 have f0:decide ((48:Int)<=(c:Int))=false:=ε;have f1:decide ((97:Int)<=(c:Int))=false:=ε;have f2:decide ((65:Int)<=(c:Int))=false:=ε;clear e;go_enter func255,ntmps255;go_wp2;go_ret;exact⟨by rw[HE.u];rfl,rfl⟩
theorem kJ(c:Nat)(h:58<=c/\c<=64)(w:AS):B2 AI 255 #[.int .u8 c] w λe w'=>e=.returned (InB (sD c))/\w'=w:=by
 have e:sD c = -1:=by
  grind [sD,Ci,A2]
 have HE:=Ab e;have hw:A2 (c:Int)=c:=by unfold A2;omega
 have f0:decide ((48:Int)<=(c:Int))=true:=decide_eq_true ζ;have f1:decide ((c:Int)<=57)=false:=ε;have f2:decide ((97:Int)<=(c:Int))=false:=ε;have f3:decide ((65:Int)<=(c:Int))=false:=ε;clear e;go_enter func255,ntmps255;go_wp2;go_ret;exact⟨by rw[HE.u];rfl,rfl⟩
theorem kI(c:Nat)(h:71<=c/\c<=96)(w:AS):B2 AI 255 #[.int .u8 c] w λe w'=>e=.returned (InB (sD c))/\w'=w:=by
 have e:sD c = -1:=by
  grind [sD,Ci,A2]
 have HE:=Ab e;have hw:A2 (c:Int)=c:=by unfold A2;omega
 have f0:decide ((48:Int)<=(c:Int))=true:=decide_eq_true ζ;have f1:decide ((c:Int)<=57)=false:=ε;have f2:decide ((97:Int)<=(c:Int))=false:=ε;have f3:decide ((65:Int)<=(c:Int))=true:=decide_eq_true ζ;have f4:decide ((c:Int)<=70)=false:=ε;clear e;go_enter func255,ntmps255;go_wp2;go_ret;exact⟨by rw[HE.u];rfl,rfl⟩
theorem kH(c:Nat)(h:103<=c/\c<256)(w:AS):B2 AI 255 #[.int .u8 c] w λe w'=>e=.returned (InB (sD c))/\w'=w:=by
 have e:sD c = -1:=by
  grind [sD,Ci,A2]
 have HE:=Ab e;have hw:A2 (c:Int)=c:=by unfold A2;omega
 have f0:decide ((48:Int)<=(c:Int))=true:=decide_eq_true ζ;have f1:decide ((c:Int)<=57)=false:=ε;have f2:decide ((97:Int)<=(c:Int))=true:=decide_eq_true ζ;have f3:decide ((c:Int)<=102)=false:=ε;have f4:decide ((65:Int)<=(c:Int))=true:=decide_eq_true ζ;have f5:decide ((c:Int)<=70)=false:=ε;clear e;go_enter func255,ntmps255;go_wp2;go_ret;exact⟨by rw[HE.u];rfl,rfl⟩
theorem YW(c:Nat)(hc:c<256)(w:AS):B2 AI 255 #[.int .u8 c] w λe w'=>e=.returned (InB (sD c))/\w'=w:=by
 by_cases h0:48<=c/\c<=57
 .exact kO c h0 w
 .by_cases h1:97<=c/\c<=102
  .exact kM c h1 w
  .by_cases h2:65<=c/\c<=70
   .exact kL c h2 w
   .by_cases h3:c<48
    .exact kK c h3 w
    .by_cases h4:c<=64
     .exact kJ c ⟨ζ,h4⟩ w
     .by_cases h5:c<=96
      .exact kI c ⟨ζ,h5⟩ w
      .exact kH c ⟨ζ,hc⟩ w
def sJ(l:By):Int:=if 6<=l.length/\pQ l 92=true/\pQ l.tail 117=true then(match A9 4 0 (l.drop 2)with
 |some (n,_)=>(n:Int)
 |none=>-1)else -1
theorem Ll{l:By}(h:¬(6<=l.length/\pQ l 92=true/\pQ l.tail 117=true)):sJ l = -1:=by unfold sJ;grind
theorem Oi{l:By}(h:6<=l.length/\pQ l 92=true/\pQ l.tail 117=true):sJ l=match A9 4 0 (l.drop 2)with
  |some (n,_)=>(n:Int)
  |none=>-1:=by unfold sJ;grind
theorem RX(ha:AtX t p (c::r))(u:UInt8):((t[p]'ha.lt).toNat:Int)==(u.toNat:Int)<->pQ (c::r) u=true:=by
 rw[ha.byte,Cp,beq_iff_eq,beq_iff_eq];constructor
 .intro h;exact ì.1 ζ
 grind
theorem gQ(h:Ci c.toNat=none):A9 (k+1) n (c::r)=none:=by
 rw[A9,MO,h]
theorem ZT(h:Ci c.toNat=some m):A9 (k+1) n (c::r)=A9 k (n*16+m) r:=by
 rw[A9,MO,h];rfl
theorem NK{w:AS}{R:Nat}{l:By}(h:RS w R t)(ha:AtX t p l):
  B2 AI 210 #[PtB R,InB p] w λe w'=>e=.returned (InB (sJ l))/\w'=w:=by
 have c0:CeB w R 0=some (.string t):=h;have q4:=ha.len;have hsz:=ha.small;have qm:=ha.le;clear h;by_cases hs:l.length<6
 .have e1:(t.size:Int)<(p:Int)+6:=ζ;have HE:=Ab (Ll (l:=l) (λh=>ζ));clear ha q4 hs;go_enter func210,ntmps210;go_wp2;go_ret;exact⟨by rw[HE.u];rfl,rfl⟩
 .match l,ha,q4,hs with
  |a::b::l2,ha,q4,hs=>
   have e1:¬(t.size:Int)<(p:Int)+6:=ζ;have hlt:=ha.lt;have q6:=ha.next.lt;have ka:=RX ha 92;have kb:=RX ha.next 117;have HA:=Ab ha;have HS:=Ab hs;by_cases ta:pQ (a::b::l2) 92=true
   .have ea:(((t[p]'hlt).toNat:Int)!=92)=false:=ε;by_cases tb:pQ (b::l2) 117=true
    .have eb:(((t[p+1]'q6).toNat:Int)!=117)=false:=ε;have HE:=Ab (Oi (l:=a::b::l2) ⟨ζ,ta,tb⟩);clear ha q4 hs ka kb ta tb;go_enter func210,ntmps210;go_wp2;go_loopw [5,6] (λv i wr=>∃(k n:Nat) (r':By),2<=k/\k<=6/\i=InB k/\v=InB n/\AtX t (p+k) r'/\A9 4 0 l2=A9 (6-k) n r'/\n<16 ^ (k-2)/\6-k<=r'.length/\wr=w) (λ_ i _=>6-(CR i).toNat)
     case atStart=>exact⟨2,0,l2,ζ,ζ,rfl,rfl,HA.u.next.next,rfl,η,by have:=HS.u;grind,rfl⟩
     case round=>
      obtain⟨k,n,r',qn,hk2,rfl,rfl,q5,q0,q8,q7,rfl⟩:=hrel;have hx:n<65536:=Õ q8 (show 16 ^ (k-2)<=16 ^ 4 from Nat.pow_le_pow_right η ζ);have qb:=Ab q5;have q9:=Ab q0;have qj:=Ab q8;by_cases qk:k<6
      .match r',q5,q0,q7,qb,q9 with
       |[],_,_,q7,_,_=>grind
       |d::r'',q5,q0,q7,qb,q9=>
        have hq:=q5.lt;obtain⟨q,qg⟩:∃q,q=p+k:=⟨_,rfl⟩
        rw[<-qg]at hq;have qo:(p:Int)+(k:Int)=(q:Int):=ζ;have qf:t[q]'hq=d:=by
         have:=q5.byte;grind
        have qe:=Ab qf;have qi:=Ab q7;have qh:=Ab (t[q]'hq).toNat_lt;clear q5 q0 q7 qf qg q8 e1;go_wp2_with fail;refine(YW (t[q]'hq).toNat qh.u _).mono ?_;rintro e w' ⟨rfl,rfl⟩;cases hd:Ci (t[q]'hq).toNat with
        |none=>
         have hI:sD (t[q]'hq).toNat = -1:=by unfold sD;rw[hd]
         have HD:=Ab hd;clear hd;go_wp2;go_ret;refine⟨?_,rfl⟩;rw[HE.u,B3,B3,Œ,q9.u,show 6-k=6-k-1+1 from ζ,gQ (by rw[<-qe.u];exact HD.u)];rfl
        |some m=>
         have hI:sD (t[q]'hq).toNat=(m:Int):=by unfold sD;rw[hd]
         have hm:=MY hd;have HD:=Ab hd;clear hd;go_wp2_with fail;have q7:=qi.u;have q8:=qj.u;refine⟨⟨k+1,n*16+m,r'',ζ,ζ,ψ,?_,qb.u.next,?_,?_,ε,trivial⟩,by simp only[CR];omega⟩
         .grind
         .rw[q9.u,show 6-k=6-(k+1)+1 from ζ,ZT (by rw[<-qe.u];exact HD.u)]
         .rw[show k+1-2=(k-2)+1 from ζ,Nat.pow_succ];omega
      .obtain rfl:k=6:=ζ;have qd:=Ab (show A9 4 0 l2=some (n,r')from q0);clear q5 q0 q7 q8 qk;go_wp2;go_ret;refine⟨?_,rfl⟩;rw[HE.u,B3,B3,Œ,qd.u];rfl
    .have eb:(((t[p+1]'q6).toNat:Int)==117)=false:=by
      grind
     have nb:(((t[p+1]'q6).toNat:Int)!=117)=true:=ε;have HE:=Ab (Ll (l:=a::b::l2) (λh=>tb h.2.2));clear ha q4 hs ka kb ta tb;go_enter func210,ntmps210;go_wp2;go_ret;exact⟨by rw[HE.u];rfl,rfl⟩
   .have ea:(((t[p]'hlt).toNat:Int)==92)=false:=by
     grind
    have na:(((t[p]'hlt).toNat:Int)!=92)=true:=ε;have HE:=Ab (Ll (l:=a::b::l2) (λh=>ta h.2.1));clear ha q4 hs ka kb ta;go_enter func210,ntmps210;go_wp2;go_ret;exact⟨by rw[HE.u];rfl,rfl⟩
  |[a],_,_,hs=>exact ε
  |[],_,_,hs=>exact ε
theorem Jt(xs:List Int)(W:AS):(convert 117 9 (.slice (some ⟨W.1.size,0,none⟩) xs.length xs.length)).run AI (W.alloc (.cells (xs.map (H4 .u8)).toArray 5))=.ok (.string (strOfNums xs)) (W.alloc (.cells (xs.map (H4 .u8)).toArray 5)):=by
 refine run_convert_bytes_arg _ 117 5 underlying117 underlying5 _ 0 xs.length xs.length xs rfl (λi hi=>?_) 9 underlying9;simp_all
def Ea(v:Nat)(w:AS)(e:Ending)(w':AS):Prop:=(∃s:ByteArray,e=.returned (.string s)/\s.data.toList=qS v)/\Bl w w'
theorem Ea.mk{v:Nat}{w:AS}{xs:List Int}(h:Lib.encodeRuneZ (v:Int)=xs)(hb:Bl w w'):Ea v w (.returned (.string (strOfNums xs))) w':=by
 refine⟨⟨_,rfl,?_⟩,hb⟩;rw[strOfNums_data,qS,CD,h]
theorem Ud(v:Nat)(h:v<128)(w:AS):B2 AI 211 #[InB v] w λe w'=>Ea v w e w':=by
 have q0:=λ(x0:Int) (W:AS)=>Jt [x0] W;simp only[Ð,ÿ,É,á,ė]at q0;have f0:decide ((v:Int)<128)=true:=decide_eq_true ζ;have g0:A2 (v:Int)=v:=by(try unfold A2);omega
 have g1:(v:Int) % 256=v:=ζ;have HL:=Ab (Lib.encodeRuneZ_one (r:=(v:Int)) ζ ζ);clear h;go_enter func211,ntmps211;go_wp2;go_ret;exact Ea.mk HL.u ((Â _ _).alloc (Á _) _)
theorem Uc(v:Nat)(h:128<=v/\v<2048)(w:AS):B2 AI 211 #[InB v] w λe w'=>Ea v w e w':=by
 have q0:=λ(x0 x1:Int) (W:AS)=>Jt [x0,x1] W;simp only[Ð,ÿ,É,á,ė,D1]at q0;have f0:decide ((v:Int)<128)=false:=ε;have f1:decide ((v:Int)<2048)=true:=decide_eq_true ζ;have g0:A2 ((v:Int) / 64)=(v:Int) / 64:=by(try unfold A2);omega
 have g1:A2 (192+(v:Int) / 64)=192+(v:Int) / 64:=by(try unfold A2);omega
 have g2:(192+(v:Int) / 64) % 256=192+(v:Int) / 64:=ζ;have HL:=Ab (Lib.encodeRuneZ_two (r:=(v:Int)) ζ ζ);clear h;go_enter func211,ntmps211;go_wp2;go_ret;exact Ea.mk HL.u ((Â _ _).alloc (Á _) _)
theorem Pr(v:Nat)(h:2048<=v/\v<65536/\Sc v)(w:AS):B2 AI 211 #[InB v] w λe w'=>Ea v w e w':=by
 have q0:=λ(x0 x1 x2:Int) (W:AS)=>Jt [x0,x1,x2] W;simp only[Ð,ÿ,É,á,ė,D1]at q0;have f0:decide ((v:Int)<128)=false:=ε;have f1:decide ((v:Int)<2048)=false:=ε;have f2:decide ((v:Int)<65536)=true:=decide_eq_true ζ;have g0:A2 ((v:Int) / 4096)=(v:Int) / 4096:=by(try unfold A2);omega
 have g1:A2 (224+(v:Int) / 4096)=224+(v:Int) / 4096:=by(try unfold A2);omega
 have g2:(224+(v:Int) / 4096) % 256=224+(v:Int) / 4096:=ζ;have g3:A2 ((v:Int) / 64)=(v:Int) / 64:=by(try unfold A2);omega
 have HL:=Ab (Lib.encodeRuneZ_three (r:=(v:Int)) (by have:=h.2.2;unfold Sc at this;omega));clear h;go_enter func211,ntmps211;go_wp2;go_ret;exact Ea.mk HL.u ((Â _ _).alloc (Á _) _)
theorem Rd(v:Nat)(h:65536<=v/\v<=1114111)(w:AS):B2 AI 211 #[InB v] w λe w'=>Ea v w e w':=by
 have q0:=λ(x0 x1 x2 x3:Int) (W:AS)=>Jt [x0,x1,x2,x3] W;simp only[Ð,ÿ,É,á,ė,D1]at q0;have f0:decide ((v:Int)<128)=false:=ε;have f1:decide ((v:Int)<2048)=false:=ε;have f2:decide ((v:Int)<65536)=false:=ε;have g0:A2 ((v:Int) / 262144)=(v:Int) / 262144:=by(try unfold A2);omega
 have g1:A2 (240+(v:Int) / 262144)=240+(v:Int) / 262144:=by(try unfold A2);omega
 have g2:(240+(v:Int) / 262144) % 256=240+(v:Int) / 262144:=ζ;have g3:A2 ((v:Int) / 4096)=(v:Int) / 4096:=by(try unfold A2);omega
 have g4:A2 ((v:Int) / 64)=(v:Int) / 64:=by(try unfold A2);omega
 have HL:=Ab (Lib.encodeRuneZ_four (r:=(v:Int)) ζ ζ);clear h;go_enter func211,ntmps211;go_wp2;go_ret;exact Ea.mk HL.u ((Â _ _).alloc (Á _) _)
theorem IQ(v:Nat)(h:Sc v)(w:AS):B2 AI 211 #[InB v] w λe w'=>Ea v w e w':=by
 by_cases h1:v<128
 .exact Ud v h1 w
 .by_cases h2:v<2048
  .exact Uc v ⟨ζ,h2⟩ w
  .by_cases h3:v<65536
   .exact Pr v ⟨ζ,h3,h⟩ w
   .exact Rd v ⟨ζ,by grind [Sc]⟩ w
theorem eR(w:AS):(AT 9 (.string ⟨#[34,92,47,98,102,110,114,116]⟩) (InB 0)).run AI w=.ok (.int .u8 34) w:=δ
theorem eQ(w:AS):(AT 9 (.string ⟨#[34,92,47,98,102,110,114,116]⟩) (InB 1)).run AI w=.ok (.int .u8 92) w:=δ
theorem eP(w:AS):(AT 9 (.string ⟨#[34,92,47,98,102,110,114,116]⟩) (InB 2)).run AI w=.ok (.int .u8 47) w:=δ
theorem eO(w:AS):(AT 9 (.string ⟨#[34,92,47,98,102,110,114,116]⟩) (InB 3)).run AI w=.ok (.int .u8 98) w:=δ
theorem eN(w:AS):(AT 9 (.string ⟨#[34,92,47,98,102,110,114,116]⟩) (InB 4)).run AI w=.ok (.int .u8 102) w:=δ
theorem eM(w:AS):(AT 9 (.string ⟨#[34,92,47,98,102,110,114,116]⟩) (InB 5)).run AI w=.ok (.int .u8 110) w:=δ
theorem eL(w:AS):(AT 9 (.string ⟨#[34,92,47,98,102,110,114,116]⟩) (InB 6)).run AI w=.ok (.int .u8 114) w:=δ
theorem eK(w:AS):(AT 9 (.string ⟨#[34,92,47,98,102,110,114,116]⟩) (InB 7)).run AI w=.ok (.int .u8 116) w:=δ
theorem eJ(j:Nat)(hj:j<8)(w:AS):(AT 9 (.string ⟨#[34,92,47,98,102,110,114,116]⟩) (InB j)).run AI w=.ok (.int .u8 (GU j).toNat) w:=by
 match j,hj with
 |0,_=>exact eR w
 |1,_=>exact eQ w
 |2,_=>exact eP w
 |3,_=>exact eO w
 |4,_=>exact eN w
 |5,_=>exact eM w
 |6,_=>exact eL w
 |7,_=>exact eK w
theorem gA(j:Nat)(hj:j<8):∃s:ByteArray,s.data.toList=qS (M4 j)/\∀w:AS,(Instr.slice 9 (.string ⟨#[34,92,47,8,12,10,13,9]⟩) (some (InB j)) (some (InB ((j:Int)+1))) none).run AI w=.ok (.string s) w:=by
 match j,hj with
 |0,_=>exact⟨⟨#[34]⟩,η,λw=>δ⟩
 |1,_=>exact⟨⟨#[92]⟩,η,λw=>δ⟩
 |2,_=>exact⟨⟨#[47]⟩,η,λw=>δ⟩
 |3,_=>exact⟨⟨#[8]⟩,η,λw=>δ⟩
 |4,_=>exact⟨⟨#[12]⟩,η,λw=>δ⟩
 |5,_=>exact⟨⟨#[10]⟩,η,λw=>δ⟩
 |6,_=>exact⟨⟨#[13]⟩,η,λw=>δ⟩
 |7,_=>exact⟨⟨#[9]⟩,η,λw=>δ⟩
theorem Og(k:Nat):∀(n:Nat) (l:By) (m:Nat) (r:By),A9 k n l=some (m,r)->r=l.drop k:=by
 induction k with
 |zero=>intro n l m r h;injection h with h;grind
 |succ k ih=>
  intro n l m r h;rw[A9]at h;split at h
  .cases h
  .have:=ih _ _ _ _ h;simp_all
theorem gZ(hk:pQ (c::r) (GU j)=true)(hj:j<8):rM (c::r)=Cy (c::r) DH:=by
 have hne:∀j:Fin 8,GU j.val≠117:=η;unfold rM;rw[if_neg];rw[Cp]at hk |-;rw[eq_of_beq hk,beq_iff_eq];exact hne ⟨j,hj⟩
theorem UI{r2:By}(hno:Cy (c::r2) DH=none)(ha:AtX t p (92::c::r2)):
  (sJ (92::c::r2) = -1/\rM (c::r2)=none)\/∃(u:Nat) (r4:By),sJ (92::c::r2)=(u:Int)/\u<65536/\AtX t (p+6) r4/\
   ((56320<=u/\u<57344/\rM (c::r2)=none)\/((u<55296\/57344<=u)/\rM (c::r2)=some (u,r4))\/
    (55296<=u/\u<56320/\((sJ r4<56320\/57344<=sJ r4)/\rM (c::r2)=none\/∃(b:Nat) (r5:By),sJ r4=(b:Int)/\56320<=b/\b<57344/\AtX t (p+12) r5/\rM (c::r2)=some (65536+(u-55296)*1024+(b-56320),r5)))):=by
 by_cases hk:pQ (c::r2) 117=true
 .have he:rM (c::r2)=Br r2:=by unfold rM;rw[if_pos hk];rfl
  rw[he];cases hx:A9 4 0 r2 with
  |none=>
   grind [sJ,rM,Br]
  |some y=>
   obtain⟨u,r4⟩:=y;have hl:=Jh _ _ _ _ _ hx;have hu:=Mo hx;have hd:=Og _ _ _ _ _ hx;have hf:sJ (92::c::r2)=(u:Int):=by
    rw[Oi (l:=92::c::r2) ⟨ω,rfl,hk⟩,show(92::c::r2:By).drop 2=r2 from rfl,hx]
   have q0:AtX t (p+6) r4:=by
    have:=ha.add 6 ω;grind
   right;refine⟨u,r4,hf,hu,q0,?_⟩;unfold Br;rw[hx];simp only;by_cases c1:u<55296\/57344<=u
   .grind
   .rw[if_neg c1];by_cases c2:56320<=u
    .grind
    .rw[if_neg c2];refine À (À ⟨ζ,ζ,?_⟩);by_cases c3:pQ r4 92=true
     .rw[if_pos c3];by_cases c4:pQ r4.tail 117=true
      .rw[if_pos c4];have e2:r4.drop 2=r4.tail.tail:=by
        simp_all
       have k1:=AV c3;have k2:=AV c4;cases hy:A9 4 0 r4.tail.tail with
       |none=>
        grind [sJ,rM,Br]
       |some z=>
        obtain⟨b,r5⟩:=z;have q5:=Jh _ _ _ _ _ hy;have q4:=Og _ _ _ _ _ hy;have hf2:sJ r4=(b:Int):=by
         grind [sJ,rM,Br]
        simp only;by_cases c5:b<56320\/57344<=b
        .grind
        .rw[if_neg c5];right;refine⟨b,r5,hf2,ζ,ζ,?_,rfl⟩;have:=q0.add 6 ζ;simp_all
      grind [sJ,rM,Br]
     grind [sJ,rM,Br]
 grind [sJ,rM,Br]
def mZ(o:Option (Nat×By))(t:ByteArray)(w:AS)(e:Ending)(w':AS):Prop:=
 ((∃(c:Nat) (r:By) (s:ByteArray) (q:Nat),o=some (c,r)/\e=.returned (.tuple #[.string s,InB q])/\s.data.toList=qS c/\AtX t q r/\0<q)\/(o=none/\e=.returned (.tuple #[.string ⟨#[]⟩,InB 0])))/\Bl w w'
theorem Rc{w:AS}{R:Nat}(h:RS w R t)(ha:AtX t p (92::r)):
  B2 AI 172 #[PtB R,InB p] w λe w'=>mZ (rM r) t w e w':=by
 have c0:CeB w R 0=some (.string t):=h;have hsz:=ha.small;have q4:=ha.len;have qr:=ha.le;have qh:=Ab h;have HA:=Ab ha;cases r with
 |nil=>
  have e1:(t.size:Int)<=(p:Int)+1:=ε;clear h ha q4;go_enter func172,ntmps172;go_wp2;go_ret2;exact⟨À ⟨rfl,rfl⟩,Bj⟩
 |cons c r2=>
  have hn:=ha.next;obtain⟨p1,qf⟩:∃p1,p1=p+1:=⟨_,rfl⟩
  rw[<-qf]at hn;have q9:=hn.lt;have e1:¬t.size<=p1:=ζ;have qv:(p:Int)+1=(p1:Int):=ζ;have qy:IntKind.i64.wrap (p1:Int)=p1:=by rw[Č];omega
  have qj:t[p1]'q9=c:=hn.byte;have qk:=Ab qj;have qm:=Ab q4;have qt:=Ab qf;clear h ha qj q4 qf hn;go_enter func172,ntmps172;go_wp2;go_loopw [8] (λi wr=>∃(j q:Nat),j<=8/\i=InB j/\Cy (c::r2) DH=Cy (c::r2) (DH.drop j)/\wr=w.drewN q) (λi _=>8-(CR i).toNat)
  case atStart=>exact⟨0,0,ζ,rfl,rfl,rfl⟩
  case round=>
   obtain⟨j,q,qu,rfl,he,rfl⟩:=hrel;have HE:=Ab he;clear he;by_cases hlt:j<8
   .have qq:=eJ j hlt;obtain⟨s,hs,hsl⟩:=gA j hlt;have HS:=Ab hs;have qg:=Ln (c::r2) j hlt;have qi:=Ab qg;have q7:(((GU j).toNat:Int)==((t[p1]'q9).toNat:Int))=pQ (c::r2) (GU j):=by
     rw[qk.u,Cp,EQ,ī];grind
    cases hk:pQ (c::r2) (GU j)with
    |true=>
     rw[hk]at q7;have HK:=Ab hk;clear hs qg hk;go_wp2_with fail;go_region;all_goals (
      go_wp2;go_ret2;refine⟨Å ⟨M4 j,r2,s,p+2,?_,ψ,HS.u,HA.u.next.next,ζ⟩,Bj⟩;rw[gZ HK.u hlt,HE.u,qi.u,HK.u];rfl)
    |false=>
     rw[hk]at q7;have HK:=Ab hk;clear hs qg hk;go_wp2_with fail;go_region;all_goals (
      go_wp2;exact⟨⟨j+1,q+1,ζ,ψ,by rw[HE.u,qi.u,HK.u];rfl,rfl⟩,by simp only[CR];omega⟩)
   .obtain rfl:j=8:=ζ;have hno:Cy (c::r2) DH=none:=HE.u;have qn:=Ab hno;clear hno;go_wp2_with fail;refine(NK (w:=w.drewN q) qh.u HA.u).mono ?_;rintro e w' ⟨rfl,rfl⟩;rcases UI qn.u HA.u with⟨h1,h2⟩|⟨u,r4,h1,hu,q6,hrest⟩
    .have hF:sJ (92::c::r2) = -1:=h1;have HO:=Ab h2;clear h1 h2;go_wp2;go_ret2;exact⟨À ⟨HO.u,rfl⟩,Bj⟩
    .have hF:sJ (92::c::r2)=(u:Int):=h1;have qe:=Ab q6;clear h1 q6;rcases hrest with⟨v1,v2,h2⟩|⟨v1,h2⟩|⟨v1,v2,hrest⟩
     .have f1:decide ((u:Int)<0)=false:=decide_eq_false ζ;have f2:decide ((56320:Int)<=(u:Int))=true:=decide_eq_true ζ;have f3:decide ((u:Int)<57344)=true:=decide_eq_true ζ;have HO:=Ab h2;clear h2;go_wp2;go_ret2;exact⟨À ⟨HO.u,rfl⟩,Bj⟩
     .have f1:decide ((u:Int)<0)=false:=decide_eq_false ζ;have HO:=Ab h2;have HU:=Ab hu;have qb:Sc u:=by unfold Sc;omega
      have qd:=Ab qb;clear h2 qb;by_cases g1:u<55296
      .have f2:decide ((56320:Int)<=(u:Int))=false:=decide_eq_false ζ;have f3:decide ((u:Int)<55296)=true:=decide_eq_true ζ;clear v1 g1;go_wp2_with fail;refine(IQ u qd.u _).mono ?_;rintro e w2⟨⟨s,rfl,hs⟩,hb⟩;have HS:=Ab hs;have HB:=Ab hb;clear hs hb;go_wp2;go_ret2;exact⟨Å ⟨u,r4,s,p+6,HO.u,ψ,HS.u,qe.u,ζ⟩,Lv HB.u⟩
      .have f2:decide ((56320:Int)<=(u:Int))=true:=decide_eq_true ζ;have f3:decide ((u:Int)<57344)=false:=decide_eq_false ζ;have f4:decide ((u:Int)<55296)=false:=decide_eq_false ζ;have f5:decide ((57344:Int)<=(u:Int))=true:=decide_eq_true ζ;clear v1 g1;go_wp2_with fail;refine(IQ u qd.u _).mono ?_;rintro e w2⟨⟨s,rfl,hs⟩,hb⟩;have HS:=Ab hs;have HB:=Ab hb;clear hs hb;go_wp2;go_ret2;exact⟨Å ⟨u,r4,s,p+6,HO.u,ψ,HS.u,qe.u,ζ⟩,Lv HB.u⟩
     .have f1:decide ((u:Int)<0)=false:=decide_eq_false ζ;have f2:decide ((56320:Int)<=(u:Int))=false:=decide_eq_false ζ;have f3:decide ((u:Int)<55296)=false:=decide_eq_false ζ;have f4:decide ((57344:Int)<=(u:Int))=false:=decide_eq_false ζ;have HR:=Ab hrest;have HV:=Ab ζ;have h6:=NK (w:=w.drewN q) (p:=p+6) qh.u qe.u;rw[show((p+6:Nat):Int)=(p:Int)+6 from ζ]at h6;have H6:=Ab h6;clear hrest v1 v2 h6;rcases HR.u with⟨q8,h2⟩|⟨b,r5,h2,b1,b2,q0,h3⟩
      .have HO:=Ab h2;clear h2;by_cases g1:sJ r4<56320
       .have f5:decide (sJ r4<56320)=true:=decide_eq_true g1;clear q8 g1;go_wp2_with fail;refine H6.u.mono ?_;rintro e w' ⟨rfl,rfl⟩;go_wp2;go_ret2;exact⟨À ⟨HO.u,rfl⟩,Bj⟩
       .have f5:decide (sJ r4<56320)=false:=decide_eq_false g1;have f6:decide (57344<=sJ r4)=true:=decide_eq_true ζ;clear q8 g1;go_wp2_with fail;refine H6.u.mono ?_;rintro e w' ⟨rfl,rfl⟩;go_wp2;go_ret2;exact⟨À ⟨HO.u,rfl⟩,Bj⟩
      .obtain⟨V,hV⟩:∃V,V=65536+(u-55296)*1024+(b-56320):=⟨_,rfl⟩
       have qw:65536+1024*((u:Int)-55296)+(b:Int)-56320=(V:Int):=ε;have qb:Sc V:=by grind [Sc,sJ,Cy]
       have qd:=Ab qb;have f5:decide ((b:Int)<56320)=false:=decide_eq_false ζ;have f6:decide ((57344:Int)<=(b:Int))=false:=decide_eq_false ζ;have HO:=Ab (show rM (c::r2)=some (V,r5) by rw[h3,hV]);have q5:=Ab q0;clear hV qb q0 h3;go_wp2_with fail;refine H6.u.mono ?_;rintro e w' ⟨rfl,rfl⟩;have qo:u<65536:=hu;rw[h2];go_wp2_with fail;refine(IQ V qd.u _).mono ?_;rintro e w2⟨⟨s,rfl,hs⟩,hb⟩;have HS:=Ab hs;have HB:=Ab hb;clear hs hb;go_wp2;go_ret2;exact⟨Å ⟨V,r5,s,p+12,HO.u,ψ,HS.u,q5.u,ζ⟩,Lv HB.u⟩
def tZ(l:By):Option UInt8:=match l with
 |126::48::_=>some 126
 |126::49::_=>some 47
 |_=>none
theorem FS{B:Nat}{a w:AS}(h:Below B a w)(q:Nat):Below B a (w.drewN q):=⟨h.os,h.tape,h.output,h.size,h.block⟩
theorem Fq.below{w:AS}{B:Nat}(h:Fq w)(hb:Below B w w')(hB:4<B):Fq w':=by
 obtain⟨t,fr,e⟩:=h;exact⟨t,fr,(hb.block _ hB).trans e⟩
theorem Fq.kept{w:AS}(h:Fq w)(hb:Bl w w'):Fq w':=by
 refine h.below hb ?_;obtain⟨t,fr,e⟩:=h;grind
theorem kW(w:AS):(AT 256 (.agg FJ) (InB 0)).run AI w=.ok (.agg #[.string ⟨#[126,48]⟩,.int .u8 126]) w:=δ
theorem kV(w:AS):(AT 256 (.agg FJ) (InB 1)).run AI w=.ok (.agg #[.string ⟨#[126,49]⟩,.int .u8 47]) w:=δ
theorem Lb(l:By)(p:ByteArray)(w:AS):B2 AI 194 #[.string ⟨l.toArray⟩,.string p] w λe w'=>e=.returned (.bool (A1 l p.data.toList))/\w'=w:=Tryz.strings_HasPrefix ⟨l.toArray⟩ p w
theorem nI{l:By}(h:A1 l [126,48]=true):tZ l=some 126:=by
 match l,h with
 |[],h=>cases h
 |[a],h=>simp[A1]at h
 |a::b::r,h=>
  simp[A1]at h;rw[<-h.1,<-h.2];rfl
theorem nH{l:By}(h:A1 l [126,49]=true):tZ l=some 47:=by
 match l,h with
 |[],h=>cases h
 |[a],h=>simp[A1]at h
 |a::b::r,h=>
  simp[A1]at h;rw[<-h.1,<-h.2];rfl
theorem kU{l:By}(h:A1 l [126,48]=false)(h1:A1 l [126,49]=false):tZ l=none:=by
 match l,h,h1 with
 |[],_,_=>rfl
 |[a],_,_=>unfold tZ;grind
 |a::b::r,h,h1=>
  unfold tZ;split
  .rename_i e;injection e with e1 e2;injection e2 with e2 _;subst e1;subst e2;simp[A1]at h
  .rename_i e;injection e with e1 e2;injection e2 with e2 _;subst e1;subst e2;simp[A1]at h1
  .rfl
def Fg(j:Nat):ByteArray:=if j=0 then ⟨#[126,48]⟩else ⟨#[126,49]⟩
def EH(j:Nat):Int:=if j=0 then 126 else 47
theorem Ss(j:Nat)(hj:j<2)(w:AS):(AT 256 (.agg FJ) (InB j)).run AI w=.ok (.agg #[.string (Fg j),.int .u8 (EH j)]) w:=by
 match j,hj with
 |0,_=>exact kW w
 |1,_=>exact kV w
theorem NQ(j:Nat)(hj:j<2):(Fg j).size=2:=by
 match j,hj with
 |0,_=>rfl
 |1,_=>rfl
def PSt(l:By)(j:Nat):Prop:=(1<=j->A1 l [126,48]=false)/\(2<=j->A1 l [126,49]=false)
theorem PSt.step{l:By}(hj:j<2)(h:PSt l j)(hh:A1 l (Fg j).data.toList=false):PSt l (j+1):=by
 match j,hj with
 |0,_=>exact⟨λ_=>hh,ζ⟩
 |1,_=>exact⟨λ_=>h.1 ζ,λ_=>hh⟩
def MP(o:Option UInt8):B1:=match o with
 |none=>.tuple #[.int .u8 0,InB 0]
 |some c=>.tuple #[.int .u8 c.toNat,InB 2]
theorem fJ{l:By}(hj:j<2)(_:PSt l j)(hh:A1 l (Fg j).data.toList=true):MP (tZ l)=.tuple #[.int .u8 (EH j),InB 2]:=by
 match j,hj with
 |0,_=>rw[nI hh];rfl
 |1,_=>rw[nH hh];rfl
theorem Rf(l:By)(w:AS)(hT:Fq w):
  CB 146 #[.string ⟨l.toArray⟩] w (MP (tZ l)):=by
 obtain⟨R,hR⟩:∃R,R=MP (tZ l):=⟨_,rfl⟩
 rw[<-hR];have HR:=Ab hR;have q6:=λw1=>Lb l ⟨#[126,48]⟩ w1;have q7:=λw1=>Lb l ⟨#[126,49]⟩ w1;have qe:=Ab q6;have qf:=Ab q7;have hlt:4<w.1.size:=by obtain⟨t,fr,e⟩:=hT;grind
 obtain⟨tt,fz,q5⟩:=hT;clear hR q6 q7;go_enter func146,ntmps146;go_wp2_with (refine F2 rfl 256 _ rfl 4 rfl tt _ fz _ q5 underlying256 rfl δ ?_);clear q5;go_loopw [7] (λi wr=>∃j:Nat,j<=2/\i=InB j/\Bl w wr/\Hid (PSt l j)) (λi _=>2-(CR i).toNat)
 case atStart=>exact⟨0,ζ,rfl,Â _ _,ζ,ζ⟩
 case round=>
  obtain⟨j,hj,rfl,hb,q8⟩:=hrel;have HB:=Ab hb;have HS:=Ab q8.u;have hsz:=hb.size;clear hb q8;by_cases h2:j=2
  .subst h2;have HV:=Ab (show R=.tuple #[.int .u8 0,InB 0] by rw[HR.u,kU (HS.u.1 ζ) (HS.u.2 ζ)];rfl);go_wp2;go_ret2;exact⟨by rw[HV.u];rfl,HB.u⟩
  .have q4:j<2:=ζ;have qd:(j:Int)<2:=ζ;have qb:=λw1=>Ss j q4 w1;have q0:=Ab (λw1=>Lb l (Fg j) w1);have qg:=NQ j q4;cases hh:A1 l (Fg j).data.toList with
   |true=>
    have HV:=Ab (show R=.tuple #[.int .u8 (EH j),InB 2] by rw[HR.u];exact fJ q4 HS.u hh);rw[hh]at q0;clear hh;generalize Fg j=pk at*;generalize EH j=pb at*;go_wp2_with fail;refine(q0.u _).mono ?_;rintro e w2⟨rfl,rfl⟩;go_wp2_with fail;go_quiet(fail);go_wp2;go_ret2;exact⟨by rw[HV.u];rfl,FS (HB.u.alloc hsz _) _⟩
   |false=>
    have q9:=Ab (HS.u.step q4 hh);rw[hh]at q0;clear hh;generalize Fg j=pk at*;generalize EH j=pb at*;go_wp2_with fail;refine(q0.u _).mono ?_;rintro e w2⟨rfl,rfl⟩;go_wp2;go_roundw
    case rel=>exact⟨j+1,ζ,ψ,HB.u.alloc hsz _,q9⟩
    case measure=>simp[CR];omega
theorem mR(l:By):(sH l).length<=l.length:=(List.takeWhile_sublist _).length_le
theorem SW:∀l:By,(CH l [126] = -1/\sH l=l)\/(CH l [126]=(sH l).length/\∃r,l=sH l++126::r)
 |[]=>Å ⟨rfl,rfl⟩
 |b::l=>by
  by_cases hb:b=126
  .subst hb;exact À ⟨θ,l,θ⟩
  .have h1:sH (b::l)=b::sH l:=by simp[sH,hb]
   have h2:CH (b::l) [126]=if CH l [126]==-1 then -1 else CH l [126]+1:=by
    grind [sH,CH,List.isPrefixOf]
   rw[h1,h2];rcases SW l with⟨e1,e2⟩|⟨e1,r,e2⟩
   .grind
   grind
theorem mG{l:By}(h:CH l [126] = -1):HT l [126]=(l,[],false):=by
 unfold HT;rw[h];rfl
theorem iT{l:By}(h:CH l [126]=(sH l).length)(e:l=sH l++126::r):HT l [126]=(sH l,r,true):=by
 unfold HT;rw[h,if_pos ζ];simp only[Int.toNat_natCast];have e1:l.take (sH l).length=sH l:=by
  grind
 have e2:l.drop ((sH l).length+[(126:UInt8)].length)=r:=by
  have h1:(sH l++126::r).drop ((sH l).length+1)=r:=by
   rw[<-ŉ,List.drop_left' rfl];rfl
  grind
 rw[e1,e2]
theorem JI:∀{p:By}(r:By),(∀c∈p,c≠126)->qC (p++r)=(qC r).map (p ++ ·)
 |[],r,_=>φ
 |c::p,r,h=>by
  rw[Ü,Dy,if_neg (h c φ),JI r (λd hd=>h d (by simp[hd]))];cases qC r<;>rfl
theorem Tx(l:By):∀c∈sH l,c≠126:=by
 induction l with
 |nil=>intro c hc;cases hc
 |cons b l ih=>
  intro c hc;by_cases hb:b=126
  .subst hb;simp[sH]at hc
  .have h1:sH (b::l)=b::sH l:=by simp[sH,hb]
   grind
theorem jR{l:By}(h:sH l=l):qC l=some l:=by
 have:=JI (p:=l) [] (by rw[<-h];exact Tx l);rw[ĉ]at this;rw[this];simp[qC]
theorem dV(r:By):qC (126::r)=match tZ (126::r)with
 |none=>none
 |some c=>(qC ((126::r).drop 2)).map (c :: ·):=by
 rw[Dy,if_pos rfl]
 match r with
 |[]=>rfl
 |b::q=>
  by_cases h0:b=48
  .subst h0;rfl
  .by_cases h1:b=49
   .subst h1;rfl
   .have e:tZ (126::b::q)=none:=by
     unfold tZ;grind
    grind
theorem Dj:∀l,0<=BA l
 |[]=>Ā _
 |x::r=>by have:=Dj r;grind [BA]
theorem Ot(x:Int):∀l,BA (l++[x])=max (BA l) x
 |[]=>by simp only[Ù,BA];omega
 |y::r=>by have:=Ot x r;simp only[Ü,BA];omega
theorem DG{m:Int}(h0:0<=m):∀{l:List Int},(∀x∈l,x<=m)->BA l<=m
 |[],_=>h0
 |x::r,h=>by
  have h1:=h x φ;have h2:=DG h0 (l:=r) (λy hy=>h y (by simp[hy]));grind [BA]
theorem Gj{x:Int}:∀{l:List Int},x∈l->x<=BA l
 |y::r,h=>by
  rcases Ë.1 h with rfl|h
  .grind [BA]
  .have:=Gj h;grind [BA]
theorem Tm(f:Nat)(es:List pL):qD (f+1) (Ak es)=1+BA (es.map (qD f)):=rfl
theorem Tl(f:Nat)(es:List (Lit×pL)):qD (f+1) (Ap es)=1+BA (es.map λp=>qD f p.2):=rfl
theorem My:∀(f:Nat) (d:pL),0<=qD f d/\qD f d<=f
 |0,_=>⟨Ā _,Ā _⟩
 |f+1,d=>by
  unfold qD;split
  .rename_i es _;have h1:=Dj (es.map (qD f));have h2:=DG (m:=f) ζ (l:=es.map (qD f)) (λx hx=>by
    obtain⟨y,_,rfl⟩:=Ò.1 hx;exact(My f y).2)
   omega
  .rename_i es;have h1:=Dj (es.map λp=>qD f p.2);have h2:=DG (m:=f) ζ (l:=es.map λp=>qD f p.2) (λx hx=>by
    obtain⟨y,_,rfl⟩:=Ò.1 hx;exact(My f y.2).2)
   omega
  .omega
theorem XY{k:Lit}(h:A3 (.map es:Bs Unit) k=true):∃p∈es,(A5 es).atKey k .nil=p.2:=by
 rw[Co];cases hf:es.find? (λp=>p.1.sameKey k)with
 |none=>
  obtain⟨p,hp,hs⟩:=è.1 (show es.any (λp=>p.1.sameKey k)=true from h);grind
 |some p=>grind
theorem mQ(c:B4 (.map es:Bs Unit)){P:pL->Prop}(h:∀k,A3 (.map es:Bs Unit) k=true->P ((A5 es).atKey k .nil)):∀p∈es,P p.2:=by
 obtain⟨_,he,hp,hk⟩:=c;cases he;intro p q0;have h1:=h p.1 (è.2 ⟨p,q0,î (hk p q0)⟩);rwa [Ă .nil (hk p q0) (apart_of_rising hp) ζ]at h1
def MH(f:Nat):Prop:=∀(F:Nat->Prop) (w:AS) (v:B1) (a:pL),Rep f F w v a->CB 157 #[v] w (InB (qD f a))
section
variable{w:AS}{b:Nat}
theorem Lq{k:Int}{n:Nm}{mp:B1}(h:VB w b k n s sl mp)(h5:k≠5)(h6:k≠6):
  CB 157 #[PtB b] w (InB 1):=by
 have c0:=h.c0;have e5:(k==5)=false:=beq_eq_false_iff_ne.2 h5;have e6:(k==6)=false:=beq_eq_false_iff_ne.2 h6;clear h h5 h6;go_enter func157,ntmps157;go_wp2;go_ret;exact⟨rfl,Â _ _⟩
theorem XE(hS:MH f)(hf:f<=5000){ps:List B1}{es:List pL}(h:VB w b 5 n0 [] sl (.map none))(ho:w.ownsRow 0 80 1 sl ps.length ps)(ha:Al (Rep f F w) ps es):
  CB 157 #[.pointer (some ⟨b,0,none⟩)] w (.int .i64 (1+BA (es.map (qD f)))):=by
 have c0:=h.c0;have c5:=h.c5;have hl:=ha.length;have q5:=EI ho;obtain⟨N,hN⟩:∃N,N=ps.length:=⟨_,rfl⟩
 have qb:(N:Int)<=9223372036854775807:=by unfold DD at q5;omega
 by_cases h0:N=0
 .obtain⟨a,c,rfl⟩:=DP ho ζ;have e1:es=[]:=ε;subst e1;clear h ho ha hl hS hN q5;go_enter func157,ntmps157;go_wp2_with fail;refine ø 1 ?_;rw[ď];go_wp2;go_ret;exact⟨rfl,Â _ _⟩
 .obtain⟨g1,p1,rfl,a1,b1,l1,q6⟩:=AP ho ζ;have q8:=Ab q6;have HA:=Ab ha;have HS:=Ab hS;have HN:=Ab hN;have HL:=Ab hl;have HF:=Ab hf;rw[<-hN]at a1 c5;clear h ho ha hl hS hN q6 h0 q5 hf;go_enter func157,ntmps157;go_wp2;go_loopw [3,19] (λdv i wr=>∃k:Nat,k<=N/\i=.int .i64 k/\dv=.int .i64 (BA ((es.map (qD f)).take k))/\Bl w wr) (λ_ i _=>N-(CR i).toNat)
  case atStart=>exact⟨0,ζ,rfl,rfl,Â _ _⟩
  case round=>
   obtain⟨k,hk,rfl,rfl,hb⟩:=hrel;have HB:=Ab hb;by_cases hlt:k<N
   .have h1:k<ps.length:=by have:=HN.u;omega
    have h3:k<es.length:=by have:=HL.u;omega
    have q1:=(hb.cell (p:=⟨g1,k,none⟩) l1).trans (q8.u k h1);have q0:=Ab (HS.u F wr ps[k] es[k] ((HA.u.get k h1 h3).bel hb));have q9:=Ab (show BA ((es.map (qD f)).take (k+1))=max (BA ((es.map (qD f)).take k)) (qD f es[k])from by
     rw[Í ε,Ot,é])
    generalize ps[k]=pk at*;generalize BA ((es.map (qD f)).take k)=M at*;generalize qD f es[k]=x at*;clear hb;go_wp2_with fail;refine q0.u.mono ?_;rintro e w2⟨rfl,hb2⟩;have q7:=Ab (HB.u.trans (hb2.mono HB.u.size));clear hb2 q0;go_wp2;exact⟨⟨k+1,ζ,ψ,by rw[q9.u],q7.u⟩,by simp only[CR];omega⟩
   .have q4:(es.map (qD f)).take k=es.map (qD f):=Ï (by have:=HN.u;have:=HL.u;grind);rw[q4];have m1:=Dj (es.map (qD f));have m2:BA (es.map (qD f))<=5000:=DG ζ (λx hx=>by
     obtain⟨y,_,rfl⟩:=Ò.1 hx;have:=(My f y).2;have:=HF.u;omega)
    obtain⟨M,hM⟩:∃M,M=BA (es.map (qD f)):=⟨_,rfl⟩
    rw[<-hM]at m1 m2 |-;have HM:=Ab hM;clear q4 hM;go_wp2;go_ret;exact⟨by rw[<-HM.u];rfl,hb⟩
theorem XD(hS:MH f)(hf:f<=5000){D:List (Lit×Bs B1)}(h:VB w b 6 n0 [] (.slice none 0 0) (.map (some m)))(ho:w.ownsMap AI 9 RV m n (.map D))(hp:Pt (Rep f F w) D es):
  CB 157 #[.pointer (some ⟨b,0,none⟩)] w (.int .i64 (1+BA (es.map λp=>qD f p.2))):=by
 have qe:=C9;have qw:=DI;have c0:=h.c0;have c6:=h.c6;have C1:=Ab (hp.canon (ho.canon qe));have HP:=Ab hp;have HS:=Ab hS;have HF:=Ab hf;clear hp hS h hf;go_enter func157,ntmps157;go_wp2_with (first
  |(at_range;refine Ft _ rfl _ 109 rfl 9 80 qe underlying109 RV m n _ rfl ho ?_;intro w0 qf qo qy)
  |go_in)
 go_frame
 go_loopw [3] (λdv wr=>∃(left:Lit->Bool) (cnt:Nat) (M:Int),dv=.int .i64 M/\0<=M/\M<=BA (es.map λp=>qD f p.2)/\wr.ranges AI 9 RV m w.1.size n (.map D) left cnt/\w.grownBy wr none/\
   Hid (∀k,A3 (.map es:Bs Unit) k=true->left k=false->qD f ((A5 es).atKey k .nil)<=M))
  (λ_ wr=>wr.rangeLeft m w.1.size)
 case atStart=>
  refine⟨_,_,0,rfl,Ā _,Dj _,qf,qo,?_⟩;intro k hk hl;rw[HP.u.has k,hk]at hl;cases hl
 case round=>
  obtain⟨left,cnt,M,rfl,qn,qh,qm,qj,G⟩:=hrel;have q9:=Ab qh;clear qh;go_wp2_with (first
   |(at_next;refine D6 _ rfl _ rfl 9 qe RV id id (λkey _ _=>⟨key,rfl⟩) (λv _ _=>⟨v,rfl⟩) m w.1.size n _ _ _ rfl qm ?_ ?_)
   |go_in)
  .intro _ hl0;have HV:=Ab (show M=BA (es.map λp=>qD f p.2)from Int.le_antisymm q9.u (DG qn (λx hx=>by
    obtain⟨p,qk,rfl⟩:=Ò.1 hx;exact mQ C1.u (P:=λd=>qD f d<=M) (λk hk=>G.u k hk (hl0 k)) p qk)))
   have m2:M<=5000:=by
    have h1:=q9.u;have h2:BA (es.map λp=>qD f p.2)<=5000:=DG ζ (λx hx=>by
     obtain⟨y,_,rfl⟩:=Ò.1 hx;have:=(My f y.2).2;have:=HF.u;omega)
    omega
   go_wp2;go_ret;exact⟨by rw[<-HV.u];rfl,Cl qj⟩
  .intro x c kl yd yp w1 qb qr qv hv qi qg hlt qq qz qu;have q6:w.grownBy w1 none:=qj.andThen qq ε;have qt:H3 c=yd:=congrArg E0 (Î hv);subst qt;have q4:A3 (.map D) kl=true:=E1 qi;obtain⟨c',e1,q7⟩:=HP.u.at kl q4;have e2:c'=c:=by
    simp_all
   subst e2;have q5:A3 (.map es:Bs Unit) kl=true:=by rw[<-HP.u.has kl];exact q4
   have q0:=Ab (HS.u F w1 c' _ (q7.bel (Cl q6)));have HX:=Ab (show qD f ((A5 es).atKey kl .nil)<=BA (es.map λp=>qD f p.2)from by
    obtain⟨p,qk,e⟩:=XY q5;rw[e];exact Gj ε)
   obtain⟨y,hy⟩:∃y,y=qD f ((A5 es).atKey kl .nil):=⟨_,rfl⟩
   rw[<-hy]at q0 HX;have HY:=Ab hy;clear qi q7 q5 e1 q4 hv hy;go_wp2_with fail;refine q0.u.mono ?_;rintro e w2⟨rfl,hb2⟩;go_wp2_with fail;have q8:=qg.kept (Cj hb2) φ φ;have qd:=q6.andThen (Cj hb2) (λj hj=>by cases hj);go_roundw
   case rel=>
    refine⟨_,qb,max M y,rfl,ζ,by have:=q9.u;have:=HX.u;omega,q8,qd,?_⟩;intro k hk hl;cases h4:left k
    .have:=G.u k hk h4;omega
    .have h5:(left k && !k.sameKey kl)=false:=hl;rw[h4]at h5;have:k=kl:=ć ε;subst this;have:=HY.u;omega
   case measure=>rw[q8.left_eq,qm.left_eq];exact hlt
end
theorem bF(hS:MH f)(hf:f<=5000):MH (f+1):=by
 intro F w v a ha;obtain⟨p,rfl,_,ha⟩:=ha;rcases ha with⟨k,hk,rfl,h⟩|⟨n,rfl,h,_⟩|⟨s,rfl,h⟩|⟨es,sl,ps,rfl,h,ho,_,hal⟩|⟨es,m,n,D,rfl,h,_,ho,hp⟩
 .exact Lq h ζ ζ
 .exact Lq h ζ ζ
 .exact Lq h ζ ζ
 .exact XE hS hf h ho hal
 .exact XD hS hf h ho hp
theorem OE:∀f,f<=5000->MH f
 |0,_=>λ_ _ _ _ h=>h.elim
 |f+1,h=>bF (OE f ζ) ζ
def IB(f:Nat)(a:pL):Prop:=∀(F:Nat->Prop) (w:AS) (v:B1),Rep f F w v a->B2 AI 201 #[v] w λe w'=>∃p,e=.returned (.pointer (some p))/\Bl w w'/\Tr f w.1.size w' (.pointer (some p)) a
theorem Y1(n:Nat)(hn:n*8<=281474976710656)(w:AS):(Instr.makeSlice 106 (InB n) (InB n)).run AI w=.ok (.slice (some ⟨w.1.size,0,none⟩) n n) (w.alloc (.cells (CL #[.pointer none] (n*1)) 80)):=by
 obtain⟨i,hi,h⟩:=à.1 Ve;injection h with h1 h2;injection h2 with h2 h3;have:=run_make (P:=AI) w 106 80 i _ underlying106 hi h1 .i64 .i64 n n ζ ζ ε ζ;grind [HZ]
section
variable{w:AS}{b:Nat}
theorem Ju{k:Int}{n:Nm}(h:VB w b k n s (.slice none 0 0) (.map none))(h5:k≠5)(h6:k≠6):
  B2 AI 201 #[PtB b] w λe w'=>e=.returned (.pointer (some ⟨w.1.size,0,none⟩))/\Bl w w'/\VB w' w.1.size k n s (.slice none 0 0) (.map none):=by
 have c0:=h.c0;have c1:=h.c1;have c2:=h.c2;have c3:=h.c3;have c4:=h.c4;have c5:=h.c5;have c6:=h.c6;have d0:∀o,(w.alloc o).cell? ⟨b,0,none⟩=some (InB k):=λo=>(Ç (w:=w) (Ä w o b h.lt)).trans c0;have e5:(k==5)=false:=beq_eq_false_iff_ne.2 h5;have e6:(k==6)=false:=beq_eq_false_iff_ne.2 h6;clear h h5 h6;go_enter func201,ntmps201;go_wp2;go_ret;exact⟨rfl,(Â _ _).alloc (Á _) _,Ax _ _ _ rfl⟩
structure ClA(f N:Nat)(w:AS)(es:List pL)(k:Nat)(wr:AS):Prop where
 bel:Bl w wr
 box:VB wr w.1.size 5 n0 [] (.slice (some ⟨w.1.size+1,0,none⟩) N N) (.map none)
 el:∃qs:List B1,qs.length=k/\wr.ownsRow (w.1.size+1) 80 1 (.slice (some ⟨w.1.size+1,0,none⟩) N N) N (qs++C0 (N-k) (.pointer none))/\TrL f (w.1.size+1) (some (w.1.size+1)) wr qs (es.take k)
theorem ClA.step{N:Nat}{w w2:AS}{es:List pL}{p:Addr}(h:ClA f N w es k wr)(hk:k<N)(q0:k<es.length)(hb:Bl wr w2)(hv:Tr f wr.1.size w2 (.pointer (some p)) es[k]):
  ClA f N w es (k+1) (w2.setCell ⟨w.1.size+1,k,none⟩ (.pointer (some p))):=by
 obtain⟨qs,hq,ho,ht⟩:=h.el;have hlt:=Af ho (w.1.size+1) rfl;have ho2:=Am ho (w':=w2) (λg hg=>hb.block g (Af ho g hg).1);have q4:=ho2.stored k (.pointer (some p));have hs2:=hb.size;refine⟨?_,?_,qs++[.pointer (some p)],by simp[hq],?_,?_⟩
 .refine ((h.bel.trans (hb.mono h.bel.size)).trans ⟨rfl,rfl,rfl,by simp[World.setCell],λj hj=>Æ _ _ _ _ (show j≠w.1.size+1 from ζ)⟩)
 .exact (h.box.kept (hb.block _ h.box.lt)).kept (Æ _ _ _ _ (show w.1.size≠w.1.size+1 from ζ))
 .have e:(qs++C0 (N-k) (C5 none)).set k (.pointer (some p))=qs++[.pointer (some p)]++C0 (N-(k+1)) (.pointer none):=by
   obtain⟨m,hm⟩:∃m,N-k=m+1:=⟨N-k-1,ζ⟩
   rw[hm,show N-(k+1)=m from ζ,<-hq,List.set_append_right _ _ (Á _)];simp[List.replicate_succ]
  rw[<-e];exact q4.1
 .rw[Í q0];refine ht.snoc hv ζ ?_ ?_
  .intro j h1 h2 h3;exact⟨(Æ _ _ _ _ (show j≠w.1.size+1 from λe=>h2 (by rw[e]))).trans (hb.block j h3),h2⟩
  .intro j h1 h2;exact⟨Æ _ _ _ _ (show j≠w.1.size+1 from ζ),λe=>by injection e;omega⟩
theorem ClA.done{N:Nat}{w:AS}{es:List pL}(h:ClA f N w es N wr)(hn:N=es.length):Tr (f+1) w.1.size wr (.pointer (some ⟨w.1.size,0,none⟩)) (Ak es):=by
 obtain⟨qs,hq,ho,ht⟩:=h.el;rw[ő,List.replicate_zero,ĉ]at ho;rw[Ï ζ]at ht;have ho':=JY ho (Ď _);rw[show N=qs.length from hq.symm]at ho';have hb:=h.box;rw[show N=qs.length from hq.symm]at hb;exact TrL.arr (sl:=.slice (some ⟨w.1.size+1,0,none⟩) qs.length qs.length) ht (Á _) ζ hb ho' (λg hg=>by
  have:g=w.1.size+1:=by simpa[Value.ownBlock]using hg.symm
  omega)
theorem XP{ps:List B1}{es:List pL}(hS:∀d∈es,IB f d)(h:VB w b 5 n0 [] sl (.map none))(ho:w.ownsRow 0 80 1 sl ps.length ps)(ha:Al (Rep f F w) ps es)(q9:ps.length*8<=281474976710656):
  B2 AI 201 #[PtB b] w λe w'=>e=.returned (.pointer (some ⟨w.1.size,0,none⟩))/\Bl w w'/\Tr (f+1) w.1.size w' (.pointer (some ⟨w.1.size,0,none⟩)) (Ak es):=by
 have c0:=h.c0;have c1:=h.c1;have c2:=h.c2;have c3:=h.c3;have c4:=h.c4;have c5:=h.c5;have c6:=h.c6;have qe:=h.lt;have hl:=ha.length;obtain⟨N,hN⟩:∃N,N=ps.length:=⟨_,rfl⟩
 have qk:(N:Int)<=9223372036854775807:=ζ;rw[<-hN]at q9;have qj:=Y1 N q9;have qd:N<=DD:=by unfold DD;omega
 have HL:=Ab (hN.trans hl);have old:∀(o:Obj) (j:Nat),(w.alloc o).cell? ⟨b,j,none⟩=CeB w b j:=λo j=>Ç (w:=w) (Ä w o b qe);have d0:∀o,(w.alloc o).cell? ⟨b,0,none⟩=some (InB 5):=ε;have d5:∀o,(w.alloc o).cell? ⟨b,5,none⟩=some sl:=ε;have q0:Hid (∀W,W=((w.alloc (.cells #[InB 5,.bool false,.string ⟨#[]⟩,InB 0,.string ⟨#[]⟩,.slice (some ⟨w.1.size+1,0,none⟩) N N,.map none] 111)).alloc (.cells (CL #[.pointer none] N) 80))->ClA f N w es 0 W):=by
  rintro W rfl;have e1:(w.alloc (.cells #[InB 5,.bool false,.string ⟨#[]⟩,InB 0,.string ⟨#[]⟩,.slice (some ⟨w.1.size+1,0,none⟩) N N,.map none] 111)).1.size=w.1.size+1:=φ;have hb1:=Ê w (.cells #[InB 5,.bool false,.string ⟨#[]⟩,InB 0,.string ⟨#[]⟩,.slice (some ⟨w.1.size+1,0,none⟩) N N,.map none] 111);generalize hW:w.alloc (.cells #[InB 5,.bool false,.string ⟨#[]⟩,InB 0,.string ⟨#[]⟩,.slice (some ⟨w.1.size+1,0,none⟩) N N,.map none] 111)=W1 at*;have q6:Bl w W1:=by rw[<-hW];exact(Â _ _).alloc (Á _) _
  have qh:(CL #[C5 none] N).size=N*1:=by simp[CL]
  have q7:=World.ownsRow_lit (base:=w.1.size+1) (e:=80) (size:=1) W1 (CL #[.pointer none] N) N ζ qd qh;have hvb:VB W1 w.1.size 5 n0 [] (.slice (some ⟨w.1.size+1,0,none⟩) N N) (.map none):=hb1;rw[e1]at q7;refine⟨q6.alloc ζ _,hvb.kept (Ä W1 _ _ hvb.lt),[],rfl,?_,TrL.nil _ _ _ _⟩;have hx:(CL #[C5 none] N).toList=[]++C0 (N-0) (C5 none):=by simp[CL,Nat.mod_one,List.map_const']
  grind
 have q5:Hid (∀(k:Nat) (h1:k<ps.length) (h3:k<es.length) (wr:AS),Bl w wr->B2 AI 201 #[ps[k]] wr λe w'=>∃p,e=.returned (.pointer (some p))/\Bl wr w'/\Tr f wr.1.size w' (.pointer (some p)) es[k]):=
  Ab (λk h1 h3 wr hb=>hS _ (Ó h3) F wr ps[k] ((ha.get k h1 h3).bel hb))
 obtain⟨a,c,rfl⟩:=BK ho;have HC:Hid (∀(k:Nat) (h1:k<ps.length),∃g,a=some ⟨g,0,none⟩/\g<w.1.size/\CeB w g k=some ps[k]):=Ab (λk h1=>by
  obtain⟨g1,p1,e,_,_,l1,q8⟩:=AP ho ζ;grind)
 rw[<-hN]at c5 d5;have HN:=Ab hN;clear h ho ha hS hl hN old;go_enter func201,ntmps201;go_wp2;go_loopw [29] (λi wr=>∃k:Nat,k<=N/\i=InB k/\Hid (ClA f N w es k wr)) (λi _=>N-(CR i).toNat)
 case atStart=>exact⟨0,ζ,rfl,q0.u _ rfl⟩
 case round=>
  obtain⟨k,hk,rfl,HI⟩:=hrel;by_cases hlt:k<N
  .have h1:k<ps.length:=by have:=HN.u;omega
   have h3:k<es.length:=by have:=HL.u;omega
   obtain⟨g,rfl,qf,qg⟩:=HC.u k h1;have q1:=(HI.u.bel.cell (p:=⟨g,k,none⟩) qf).trans qg;have qV:=HI.u.box.c5;have q8:=Ab (q5.u k h1 h3);have q4:Hid (∀(w2:AS) (p:Addr),Bl wr w2->Tr f wr.1.size w2 (.pointer (some p)) es[k]->ClA f N w es (k+1) (w2.setCell ⟨w.1.size+1,k,none⟩ (.pointer (some p)))):=Ab (λw2 p hb hv=>HI.u.step hlt h3 hb hv);have qb:Hid (∀w2,Bl wr w2->w2.cell? ⟨w.1.size,5,none⟩=some (.slice (some ⟨w.1.size+1,0,none⟩) N N)/\w2.frozen? ⟨w.1.size+1,k,none⟩=false/\∃u,w2.cell? ⟨w.1.size+1,k,none⟩=some u):=Ab (λw2 hb=>by
    obtain⟨qs,hq,ho,ht⟩:=HI.u.el;have ho2:=Am ho (w':=w2) (λg hg=>hb.block g (Af ho g hg).1);refine⟨(HI.u.box.kept (hb.block _ HI.u.box.lt)).c5,ho2.frozenAt k,?_⟩;have h5:=ho2.cellAt k ζ;grind)
   have HB:=Ab HI.u.bel;generalize ps[k]=pk at*;clear HC;go_wp2_with fail;go_region_with (go_at_call 201;refine(q8.u _ ?_).mono ?_;exact bx HB.u;rintro e w2⟨p,rfl,hb2,qi⟩;have hb3:Bl wr w2:=bx hb2;obtain⟨y1,y2,u,y3⟩:=qb.u w2 hb3);all_goals (
    go_wp2;exact⟨⟨k+1,ζ,ψ,q4.u w2 p hb3 qi⟩,by simp only[CR];omega⟩)
  .have HD:=Ab (show Tr (f+1) w.1.size wr (.pointer (some ⟨w.1.size,0,none⟩)) (Ak es)from(show ClA f N w es N wr from by have:=HI.u;grind).done HL.u);have HB:=Ab HI.u.bel;clear HC;go_wp2;go_ret;exact⟨rfl,HB.u,HD.u⟩
end
theorem Zw(n:Nat)(w:AS):(HJ 109 (some (InB n))).run AI w=.ok (.map (some w.1.size)) (w.alloc (.map #[] 0)):=by
 simp[HJ,run_underlying underlying109,asInt,asIntOf,Result.andThen]
theorem L6{es':List (Lit×pL)}(c:B4 (.map es:Bs Unit))(c':B4 (.map es':Bs Unit))(h:∀k,A3 (.map es:Bs Unit) k=true->A3 (.map es':Bs Unit) k=true/\(A5 es).atKey k .nil=(A5 es').atKey k .nil):∀p∈es,p∈es':=by
 obtain⟨_,he,hp,hk⟩:=c;cases he;obtain⟨_,he,q7,q6⟩:=c';cases he;have q5:=apart_of_rising hp;have q0:=apart_of_rising q7;intro p q4;have h1:A3 (.map es:Bs Unit) p.1=true:=è.2 ⟨p,q4,î (hk p q4)⟩;obtain⟨h2,h3⟩:=h p.1 h1;obtain⟨q,hq,hs⟩:=è.1 (show es'.any (λq=>q.1.sameKey p.1)=true from h2);have e1:q.1=p.1:=ć hs;have e2:=Ă .nil (hk p q4) q5 ζ;have e3:=Ă .nil (q6 q hq) q0 ζ;grind
theorem lB{es':List (Lit×pL)}(c:B4 (.map es:Bs Unit))(c':B4 (.map es':Bs Unit))(hh:∀k,A3 (.map es:Bs Unit) k=A3 (.map es':Bs Unit) k)(h:∀k,A3 (.map es:Bs Unit) k=true->(A5 es).atKey k .nil=(A5 es').atKey k .nil):es=es':=by
 have s1:=L6 c c' ε;have s2:=L6 c' c ε;obtain⟨_,he,hp,_⟩:=c;cases he;obtain⟨_,he,q0,_⟩:=c';cases he;exact eq_of_mem_rising hp q0 ε
theorem gM(c:B4 (.map es:Bs Unit)){k:Lit}(h:A3 (.map es:Bs Unit) k=true):F5 k:=by
 obtain⟨_,he,_,hk⟩:=c;cases he;obtain⟨p,hp,hs⟩:=è.1 (show es.any (λp=>p.1.sameKey k)=true from h);have:=hk p hp;rwa [ć hs]at this
structure ClO(f:Nat)(w:AS)(es:List (Lit×pL))(left:Lit->Bool)(cnt:Nat)(wr:AS):Prop where
 bel:Bl w wr
 box:VB wr w.1.size 6 n0 [] (.slice none 0 0) (.map (some (w.1.size+1)))
 sz:w.1.size+3<=wr.1.size
 el:∃n' D' es',n'+cnt<=es.length/\wr.ownsMap AI 9 RV (w.1.size+1) n' (.map D')/\TrM f (w.1.size+3) wr D' es'/\
  (∀k,A3 (.map es':Bs Unit) k=(A3 (.map es:Bs Unit) k && !left k))/\(∀k,A3 (.map es':Bs Unit) k=true->(A5 es').atKey k .nil=(A5 es).atKey k .nil)
theorem ClO.next{w w1:AS}(h:ClO f w es left cnt wr)(hg:wr.grownBy w1 (some (w.1.size+2))):ClO f w es left cnt w1:=by
 have hs:=h.sz;have q0:=hg.size;have hk:∀j,j<wr.1.size->j≠w.1.size+2->w1.1[j]?=wr.1[j]?:=λj h1 h2=>hg.block j h1 ε;refine⟨⟨hg.os.trans h.bel.os,hg.tape.trans h.bel.tape,hg.output.trans h.bel.output,ζ,λj hj=>(hk j ζ ζ).trans (h.bel.block j hj)⟩,h.box.kept ε,ζ,?_⟩;obtain⟨n',D',es',h1,h2,h3,h4,h5⟩:=h.el;exact⟨n',D',es',h1,A0 h2 ε,h3.move ε,h4,h5⟩
theorem ClO.step{q0:Nat}{w w1 w2:AS}(h:ClO f w es left cnt w1)(c:B4 (.map es:Bs Unit))(hc:q0<cnt)(qb:es.length<DD){x:B1}{kl:Lit}(q4:keyOf AI 9 x=some kl)(hl:left kl=true)(hh:A3 (.map es:Bs Unit) kl=true){p:Addr}(hb:Bl w1 w2)(hv:Tr f w1.1.size w2 (.pointer (some p)) ((A5 es).atKey kl .nil)):
  w2.cell? ⟨w.1.size,6,none⟩=some (.map (some (w.1.size+1)))/\∃w3,(Instr.mapUpdate 109 (.map (some (w.1.size+1))) x (.pointer (some p))).run AI w2=.ok () w3/\
   ClO f w es (λz=>left z && !z.sameKey kl) q0 w3/\w2.grownBy w3 (some (w.1.size+1)):=by
 have hs:=h.sz;have hs2:=hb.size;refine⟨(h.box.kept (hb.block _ h.box.lt)).c6,?_⟩;obtain⟨n',D',es',h1,h2,h3,h4,h5⟩:=h.el;have q8:=A0 h2 (hb.block _ (CV h2));obtain⟨w3,q5,q6,hg⟩:=q8.update C9 underlying109 ζ q4 (val:=.pointer (some p)) (d:=.held (.pointer (some p))) (ps:=[]) rfl;have q9:=hg.size;have hk:∀j,j<w2.1.size->j≠w.1.size+1->w3.1[j]?=w2.1[j]?:=λj h1 h2=>hg.block j h1 ε;refine⟨w3,q5,⟨⟨hg.os.trans (hb.os.trans h.bel.os),hg.tape.trans (hb.tape.trans h.bel.tape),hg.output.trans (hb.output.trans h.bel.output),ζ,λj hj=>(hk j ζ ζ).trans ((hb.block j ζ).trans (h.bel.block j hj))⟩,
  (h.box.kept (hb.block _ h.box.lt)).kept ε,ζ,?_⟩,hg⟩
 have kk:=gM c hh;obtain⟨D2,q7,e1,e2,ht⟩:=h3.put (k:=kl) (w6:=w3) hv ζ (λj j1 j2=>(hk j ζ ζ).trans (hb.block j j2)) ε;rw[e1]at q6;refine⟨n'+1,D2,q7,ζ,q6,ht,?_,?_⟩
 .intro k;rw[<-e2];by_cases hkk:k=kl
  .subst hkk;rw[has_put_same ⟨_,rfl⟩ kk,hh,hl,î kk];rfl
  .rw[C6 hkk,h4];have:k.sameKey kl=false:=by
    cases hx:k.sameKey kl
    .rfl
    .exact absurd (ć hx) hkk
   grind
 .intro k;rw[<-e2];by_cases hkk:k=kl
  .subst hkk;intro _;rw[atKey_put_same ⟨_,rfl⟩ kk]
  .rw[C6 hkk,G2 hkk];exact h5 k
theorem ClO.done{w:AS}(h:ClO f w es left cnt wr)(c:B4 (.map es:Bs Unit))(hl:∀k,left k=false):Tr (f+1) w.1.size wr (.pointer (some ⟨w.1.size,0,none⟩)) (Ap es):=by
 obtain⟨n',D',es',h1,h2,h3,h4,h5⟩:=h.el;have c':=h3.pt.canon (h2.canon C9);have e:es'=es:=lB c' c ε h5;subst e;exact h3.obj ζ ⟨ζ,ζ⟩ ζ h.box h2
section
variable{w:AS}{b:Nat}
theorem XO{D:List (Lit×Bs B1)}(hS:∀k,A3 (.map es:Bs Unit) k=true->IB f ((A5 es).atKey k .nil))(h:VB w b 6 n0 [] (.slice none 0 0) (.map (some m)))(ho:w.ownsMap AI 9 RV m n (.map D))(hp:Pt (Rep f F w) D es)(qm:es.length<DD):
  B2 AI 201 #[PtB b] w λe w'=>e=.returned (.pointer (some ⟨w.1.size,0,none⟩))/\Bl w w'/\Tr (f+1) w.1.size w' (.pointer (some ⟨w.1.size,0,none⟩)) (Ap es):=by
 have qe:=C9;have z2:=DI;have z1:=Zw es.length;have c0:=h.c0;have c1:=h.c1;have c2:=h.c2;have c3:=h.c3;have c4:=h.c4;have c5:=h.c5;have c6:=h.c6;have qr:=h.lt;have z0:=CV ho;have l1:=λ(o:Obj) ty=>(ho.alloc o).len (t:=109) underlying109 ty;have hl:=hp.size;have hsz:Maps.size (.map D:Bs B1)=es.length:=hl;have C1:=Ab (hp.canon (ho.canon qe));have qn:Hid (∀o1 o2,((w.alloc o1).alloc o2).ownsMap AI 9 RV m n (.map D)):=Ab (λo1 o2=>(ho.alloc o1).alloc o2);have old:∀(o:Obj) (j:Nat),(w.alloc o).cell? ⟨b,j,none⟩=w.cell? ⟨b,j,none⟩:=λo j=>Ç (w:=w) (Ä w o b qr);have d0:∀o,(w.alloc o).cell? ⟨b,0,none⟩=some (.int .i64 6):=ε;have d6:∀o,(w.alloc o).cell? ⟨b,6,none⟩=some (.map (some m)):=ε;have q0:Hid (∀w0,((w.alloc (.cells #[.int .i64 6,.bool false,.string ⟨#[]⟩,.int .i64 0,.string ⟨#[]⟩,.slice none 0 0,.map (some (w.1.size+1))] 111)).alloc (.map #[] 0)).grownBy w0 none->w0.1.size=w.1.size+3 ->
   ClO f w es (has (.map D:Bs B1)) (Maps.size (.map D:Bs B1)) w0):=by
  intro w0 hg hs;obtain⟨W1,hW⟩:∃W1,W1=w.alloc (.cells #[.int .i64 6,.bool false,.string ⟨#[]⟩,.int .i64 0,.string ⟨#[]⟩,.slice none 0 0,.map (some (w.1.size+1))] 111):=⟨_,rfl⟩
  rw[<-hW]at hg;have e1:W1.1.size=w.1.size+1:=κ;have hvb:VB W1 w.1.size 6 n0 [] (.slice none 0 0) (.map (some (w.1.size+1))):=by rw[hW];exact Ê w _
  have qb:Bl w W1:=by rw[hW];exact(Â _ _).alloc (Á _) _
  have q4:=D9 W1 AI 9 RV;rw[e1]at q4;have hk:∀j,j<w.1.size+2->w0.1[j]?=(W1.alloc (.map #[] 0)).1[j]?:=λj hj=>hg.block j ω φ;have hb2:=qb.alloc ζ (.map #[] 0);refine⟨⟨hg.os.trans hb2.os,hg.tape.trans hb2.tape,hg.output.trans hb2.output,ζ,λj hj=>(hk j ζ).trans (hb2.block j hj)⟩,
   (hvb.kept (Ä W1 _ _ hvb.lt)).kept (hk _ ζ),ζ,0,[],[],ζ,A0 q4 (hk _ ζ),TrM.nil _ _ _,?_,?_⟩
  .intro k;rw[hp.has k];cases A3 (.map es:Bs Unit) k<;>rfl
  .intro k hk;cases hk
 have HP:=Ab hp;have HS:=Ab hS;have qo:=Ab qm;clear hp hS h ho qm old hl;go_enter func201,ntmps201;go_wp2_with (first
  |(at_range;refine Ft _ rfl _ 109 rfl 9 80 qe underlying109 RV m n _ rfl (qn.u _ _) ?_;intro w0 qf qj qy)
  |go_in)
 have e0:(((w.alloc (.cells #[.int .i64 6,.bool false,.string ⟨#[]⟩,.int .i64 0,.string ⟨#[]⟩,.slice none 0 0,.map (some (w.1.size+1))] 111)).alloc (.map #[] 0))).1.size=w.1.size+2:=φ;have hcl:=Ab (q0.u w0 qj ζ);rw[e0]at qf;clear qj qy q0;go_loopw [7] (λ_ wr=>∃(left:Lit->Bool) (cnt:Nat),wr.ranges AI 9 RV m (w.1.size+2) n (.map D) left cnt/\Hid (ClO f w es left cnt wr))
  (λ_ wr=>wr.rangeLeft m (w.1.size+2))
 case atStart=>grind
 case round=>
  obtain⟨left,cnt,qk,G⟩:=hrel;go_wp2_with (first
   |(at_next;refine D6 _ rfl _ rfl 9 qe RV id id (λkey _ _=>⟨key,rfl⟩) (λv _ _=>⟨v,rfl⟩) m (w.1.size+2) n _ _ _ rfl qk ?_ ?_)
   |go_in)
  .intro _ hl0;have HD:=Ab (G.u.done C1.u hl0);have HB:=Ab G.u.bel;go_wp2;go_ret;exact⟨rfl,HB.u,HD.u⟩
  .intro x c kl yd yp w1 q9 qd qv hv qi qg hlt qu z3 qz;have qh:H3 c=yd:=congrArg E0 (Î hv);subst qh;have q5:A3 (.map D) kl=true:=E1 qi;obtain⟨c',e1,q7⟩:=HP.u.at kl q5;have e2:c'=c:=by
    simp_all
   subst e2;have q6:A3 (.map es:Bs Unit) kl=true:=by rw[<-HP.u.has kl];exact q5
   have G1:=G.u.next qu;have qt:Hid (∀wx,Bl w wx->B2 AI 201 #[c'] wx λe w'=>∃p,e=.returned (.pointer (some p))/\Bl wx w'/\Tr f wx.1.size w' (.pointer (some p)) ((A5 es).atKey kl .nil)):=Ab (λwx hb=>HS.u kl q6 F wx c' (q7.bel hb));have qq:=Ab (λ(w2:AS) (p:Addr) (hb:Bl w1 w2) (hv:Tr f w1.1.size w2 (.pointer (some p)) ((A5 es).atKey kl .nil))=>G1.step C1.u hlt qo.u qd qv q6 hb hv);have qV:=G1.box.c6;have HB:=Ab G1.bel;clear qi q7 q6 e1 q5 hv;go_wp2_with fail;go_region_with (go_at_call 201;refine(qt.u _ ?_).mono ?_;exact bx HB.u;rintro e w2⟨p,rfl,hb2,qh⟩;have hb3:Bl w1 w2:=bx hb2;obtain⟨y1,w3,qw,hcl,hg3⟩:=qq.u w2 p hb3 qh);all_goals (
    have q8:=(qg.kept (Cj hb3) φ φ).kept hg3 ε ε;go_wp2;go_roundw
    case rel=>exact⟨_,q9,q8,hcl⟩
    case measure=>rw[q8.left_eq,qk.left_eq];exact hlt)
end
def vB:Nat->pL->Prop
 |0,_=>True
 |f+1,d=>match d with
  |.slice es _=>es.length<=1000000000000/\∀e∈es,vB f e
  |.map es=>es.length<=1000000000000/\∀p∈es,vB f p.2
  |_=>True
theorem U7(hS:∀a,vB f a->IB f a)(a:pL)(hn:vB (f+1) a):IB (f+1) a:=by
 intro F w v ha;obtain⟨b,rfl,_,ha⟩:=ha;rcases ha with⟨k,hk,rfl,h⟩|⟨n,rfl,h,q0⟩|⟨s,rfl,h⟩|⟨es,sl,ps,rfl,h,ho,_,hal⟩|⟨es,m,n,D,rfl,h,_,ho,hp⟩
 .refine (Ju h ζ ζ).mono ?_;rintro e w' ⟨rfl,hb,hv⟩;exact⟨_,rfl,hb,Tr.leafW (Á _) hk hv⟩
 .refine (Ju h ζ ζ).mono ?_;rintro e w' ⟨rfl,hb,hv⟩;exact⟨_,rfl,hb,Tr.leafN (Á _) hv q0⟩
 .refine (Ju h ζ ζ).mono ?_;rintro e w' ⟨rfl,hb,hv⟩;exact⟨_,rfl,hb,Tr.leafS (Á _) hv⟩
 .obtain⟨n1,n2⟩:=hn;refine(XP ε h ho hal (by have:=hal.length;omega)).mono ?_;grind
 .obtain⟨n1,n2⟩:=hn;refine(XO (λk hk=>by
   obtain⟨p,q4,e⟩:=XY hk;grind) h ho hp (by unfold DD;omega)).mono ?_
  grind
theorem LJ:∀(f:Nat) (a:pL),vB f a->IB f a
 |0,_,_=>λ_ _ _ h=>h.elim
 |f+1,a,hn=>U7 (LJ f) a hn
def uQ:Nat->pN->List Nat
 |0,_=>[]
 |f+1,a=>match a with
  |.agg [.lit (.int _ _),.lit (.int _ g),x]=>(match x with
   |.slice al _=>al.flatMap (uQ f)
   |.map es=>g.toNat::es.flatMap (λp=>uQ f p.2)
   |_=>[])
  |_=>[]
theorem fY(f b g:Nat)(al:List pN):uQ (f+1) (pS b g (.slice al []))=al.flatMap (uQ f):=rfl
theorem fW(f b g:Nat)(es:List (Lit×pN)):uQ (f+1) (pS b g (.map es))=g::es.flatMap (λp=>uQ f p.2):=rfl
theorem Ad.maps{w:AS}:∀{f:Nat}{v:B1}{a:pN},Ad f w v a->(∀k∈uQ f a,k∈pM f a)/\∀k∈pM f a,k∈uQ f a\/∃o,w.1[k]?=some o/\o.isCells=true
 |0,_,_,h=>h.elim
 |f+1,v,a,h=>by
  obtain⟨b,g,x,rfl,hv,h⟩:=h;rcases h with⟨j,_,_,rfl,h⟩|⟨n,_,rfl,h,_⟩|⟨s,_,rfl,h⟩|⟨al,sl,ps,rfl,h,ho,hs,ha⟩|⟨es,n,D,rfl,h,ho,hp⟩
  .refine⟨λk hk=>(by cases hk),λk hk=>À ?_⟩;rw[Fk]at hk;obtain rfl:k=b:=ε;exact⟨_,h,rfl⟩
  .refine⟨λk hk=>(by cases hk),λk hk=>À ?_⟩;rw[GR]at hk;obtain rfl:k=b:=ε;exact⟨_,h,rfl⟩
  .refine⟨λk hk=>(by cases hk),λk hk=>À ?_⟩;rw[GQ]at hk;obtain rfl:k=b:=ε;exact⟨_,h,rfl⟩
  .rw[AU,fY];refine⟨λk hk=>?_,λk hk=>?_⟩
   .obtain⟨c,hc,q0⟩:=û.1 hk;obtain⟨u,hu⟩:=ha.right hc;exact Ø _ (ý _ (û.2 ⟨c,hc,(Ad.maps hu).1 k q0⟩))
   .rcases Ë.1 hk with rfl|hk
    .exact À ⟨_,h,rfl⟩
    .rcases ó.1 hk with hk|hk
     .split at hk
      .cases hk
      .rename_i h0;obtain rfl:k=g:=ε;rw[if_neg h0]at hs;rcases ho.2 with⟨h1,_⟩|⟨g',cap,cur,h1,_,h3,_⟩
       .rw[h1]at hs;cases hs
       .rw[h1]at hs;cases hs;exact À ⟨_,h3,rfl⟩
     .obtain⟨c,hc,q0⟩:=û.1 hk;obtain⟨u,hu⟩:=ha.right hc;exact((Ad.maps hu).2 k q0).imp ε id
  .rw[BC,fW];refine⟨λk hk=>?_,λk hk=>?_⟩
   .rcases Ë.1 hk with rfl|hk
    .simp
    .obtain⟨p,q4,q0⟩:=û.1 hk;obtain⟨u,hu⟩:=hp.right q4;exact Ø _ (Ø _ (û.2 ⟨p,q4,(Ad.maps hu).1 k q0⟩))
   .rcases Ë.1 hk with rfl|hk
    .exact À ⟨_,h,rfl⟩
    .rcases Ë.1 hk with rfl|hk
     .grind
     .obtain⟨p,q4,q0⟩:=û.1 hk;obtain⟨u,hu⟩:=hp.right q4;exact((Ad.maps hu).2 k q0).imp ε id
theorem Dh{d D x:Int}(hd:d<=D):∀{f:Nat}{lv:Int}{v:pL},pU d x f lv v->pU D x f lv v
 |0,_,_,h=>h.elim
 |f+1,lv,v,⟨h0,h⟩=>by
  refine⟨Int.le_trans h0 hd,?_⟩;rcases h with h|h|h|⟨es,h,rfl⟩|⟨es,h1,h2,rfl⟩
  .grind
  .grind
  .grind
  .exact À (À (À (Å ⟨es,λe he=>Dh hd (h e he),rfl⟩)))
  .exact À (À (À (À ⟨es,h1,λp hp=>⟨(h2 p hp).1,Dh hd (h2 p hp).2⟩,rfl⟩)))
theorem GP{d x s:Int}:∀{f:Nat}{lv:Int}{v:pL},pU d x f lv v->pU (d+s) x f (lv+s) v
 |0,_,_,h=>h.elim
 |f+1,lv,v,⟨h0,h⟩=>by
  refine⟨ζ,?_⟩;have e:lv+s+1=lv+1+s:=ζ;rcases h with h|h|h|⟨es,h,rfl⟩|⟨es,h1,h2,rfl⟩
  .grind
  .grind
  .grind
  .exact À (À (À (Å ⟨es,λq he=>by rw[e];exact GP (h q he),rfl⟩)))
  .exact À (À (À (À ⟨es,h1,λp hp=>⟨(h2 p hp).1,by rw[e];exact GP (h2 p hp).2⟩,rfl⟩)))
theorem Hn{x:Int}:∀{f:Nat}{lv:Int}{v:pL},pU d x f lv v->lv<=d
 |0,_,_,h=>h.elim
 |_+1,_,_,h=>h.1
theorem CT{d x:Int}:∀{g f:Nat}{lv:Int}{v:pL},pU d x g lv v->d<lv+f->pU d x f lv v
 |0,_,_,_,h,_=>h.elim
 |g+1,0,lv,v,⟨h0,_⟩,hf=>ζ
 |g+1,f+1,lv,v,⟨h0,h⟩,hf=>by
  refine⟨h0,?_⟩;rcases h with h|h|h|⟨es,h,rfl⟩|⟨es,h1,h2,rfl⟩
  .grind
  .grind
  .grind
  .exact À (À (À (Å ⟨es,λq he=>CT (h q he) ζ,rfl⟩)))
  .exact À (À (À (À ⟨es,h1,λp hp=>⟨(h2 p hp).1,CT (h2 p hp).2 ζ⟩,rfl⟩)))
theorem P5{d D x:Int}:∀{f:Nat}{lv:Int}{v:pL},pU D x f lv v->lv+qD f v<=d+1->pU d x f lv v
 |0,_,_,h,_=>h.elim
 |f+1,lv,v,⟨h0,h⟩,hd=>by
  rcases h with⟨k,hk,rfl⟩|⟨s,hs,rfl⟩|⟨n,h1,h2,h3,rfl⟩|⟨es,h,rfl⟩|⟨es,h1,h2,rfl⟩
  .have:qD (f+1) (BG k)=1:=rfl;exact⟨ζ,Å ⟨k,hk,rfl⟩⟩
  .have:qD (f+1) (Av s)=1:=rfl;exact⟨ζ,À (Å ⟨s,hs,rfl⟩)⟩
  .have:qD (f+1) (Bm n)=1:=rfl;exact⟨ζ,À (À (Å ⟨n,h1,h2,h3,rfl⟩))⟩
  .rw[Tm]at hd;have q0:=Dj (es.map (qD f));refine⟨ζ,À (À (À (Å ⟨es,λq he=>P5 (h q he) ?_,rfl⟩)))⟩;have:=Gj (Ò.2 ⟨q,he,rfl⟩:qD f q∈es.map (qD f));omega
  .rw[Tl]at hd;have q0:=Dj (es.map λp=>qD f p.2);refine⟨ζ,À (À (À (À ⟨es,h1,λp hp=>⟨(h2 p hp).1,P5 (h2 p hp).2 ?_⟩,rfl⟩)))⟩;have:=Gj (Ò.2 ⟨p,hp,rfl⟩:qD f p.2∈es.map λp=>qD f p.2);omega
theorem Et{x:Int}(h:pU d x (f+1) lv v)(he:(AW v)[i]?=some e):pU d x f (lv+1) e:=by
 obtain⟨_,h⟩:=h;rcases h with⟨k,hk,rfl⟩|⟨s,hs,rfl⟩|⟨n,h1,h2,h3,rfl⟩|⟨es,h,rfl⟩|⟨es,h1,h2,rfl⟩
 .cases he
 .cases he
 .cases he
 .exact h e (ñ he)
 .obtain⟨p,hp,rfl⟩:=Ò.1 (ñ (show(es.map H1)[i]?=some e from he));grind
theorem P1{d x:Int}:∀{p:List Nat}{f:Nat}{lv:Int}{v n:pL},pU d x (f+p.length) lv v->BD p v=some n->pU d x f (lv+p.length) n
 |[],f,lv,v,n,h,hs=>by
  grind [BD]
 |i::r,f,lv,v,n,h,hs=>by
  have h':pU d x ((f+r.length)+1) lv v:=h;rw[BD]at hs;cases hk:(AW v)[i]? with
  |none=>grind
  |some e=>
   rw[hk]at hs;have ih:=P1 (Et h' hk) hs;grind
theorem Er{α β:Type}(x:β):∀(es:List (α×β)) (i:Nat),(es.modify i λp=>(p.1,x)).map E0=es.map E0
 |[],i=>φ
 |a::r,0=>φ
 |a::r,i+1=>by simp[Er x r i]
theorem Ma{α β:Type}{x:β}{q:α×β}:∀{es:List (α×β)}{i:Nat},q∈(es.modify i λp=>(p.1,x))->q∈es\/q.2=x/\∃p∈es,p.1=q.1
 |[],i,h=>by simp at h
 |a::r,0,h=>by
  grind
 |a::r,i+1,h=>by
  rw[List.modify_succ_cons]at h;rcases Ë.1 h with rfl|h
  .grind
  .rcases Ma h with h|⟨h1,p,h2,h3⟩
   .grind
   grind
theorem gW{x:Int}(h:pU d x (f+1) lv v)(he:pU d x f (lv+1) e):pU d x (f+1) lv (EE i e v):=by
 obtain⟨h0,h⟩:=h;rcases h with⟨k,hk,rfl⟩|⟨s,hs,rfl⟩|⟨n,h1,h2,h3,rfl⟩|⟨es,h,rfl⟩|⟨es,h1,h2,rfl⟩
 .exact⟨h0,Å ⟨k,hk,rfl⟩⟩
 .exact⟨h0,À (Å ⟨s,hs,rfl⟩)⟩
 .exact⟨h0,À (À (Å ⟨n,h1,h2,h3,rfl⟩))⟩
 .refine⟨h0,À (À (À (Å ⟨es.set i e,λq hq=>?_,rfl⟩)))⟩;grind
 .refine⟨h0,À (À (À (À ⟨es.modify i λp=>(p.1,e),?_,λq hq=>?_,rfl⟩)))⟩
  .have h3:(es.map E0).Pairwise (λk l=>k.before l=true):=Ć.2 h1;rw[<-Er e es i]at h3;grind
  .rcases Ma hq with hq|⟨rfl,p,hp,hpk⟩
   .grind
   grind
theorem P4{d x:Int}:∀{p:List Nat}{f:Nat}{lv:Int}{v n n':pL},pU d x (f+p.length) lv v->BD p v=some n->pU d x f (lv+p.length) n'->pU d x (f+p.length) lv (AJ p n' v)
 |[],f,lv,v,n,n',h,hs,hn=>by grind [AJ,BD]
 |i::r,f,lv,v,n,n',h,hs,hn=>by
  have h':pU d x ((f+r.length)+1) lv v:=h;rw[BD]at hs;cases hk:(AW v)[i]? with
  |none=>grind
  |some e=>
   rw[hk]at hs;rw[show lv+((i::r).length:Nat)=lv+1+(r.length:Nat)from ε]at hn;show pU d x ((f+r.length)+1) lv _;rw[AJ,hk];exact gW h' (P4 (Et h' hk) hs hn)
theorem ZA{α:Type}{c q:α}{l:List α}(h:q∈rN i c l):q=c\/q∈l:=by
 have:=(FK i c l).mem_iff.1 h;grind
theorem ZE{α:Type}{q:α}{l:List α}(h:q∈rH i l):q∈l:=by
 rcases ó.1 h with h|h
 .grind
 grind
theorem S4{x:Int}{k:By}{c:pL}(h1:es.Pairwise (λp q=>p.1.before q.1=true))(h2:∀p∈es,(∃s,p.1=.string s/\Ut s)/\pU d x f (lv+1) p.2)(hk:Ut k)(hc:pU d x f (lv+1) c):
  (qI (.string k) c es).Pairwise (λp q=>p.1.before q.1=true)/\∀p∈qI (.string k) c es,(∃s,p.1=.string s/\Ut s)/\pU d x f (lv+1) p.2:=by
 refine⟨(BP ⟨h1,λp hp=>?_⟩).1,λp hp=>?_⟩
 .grind
 .rcases Ë.1 ((DQ (.string k) c es).mem_iff.1 hp)with rfl|hp
  .grind
  .exact h2 p (Đ.1 hp).1
theorem Xb{x:Int}{k:By}{c:pL}(h:pU d x (f+1) lv v)(hk:Ut k)(hc:pU d x f (lv+1) c):pU d x (f+1) lv (Dr i k c v):=by
 obtain⟨h0,h⟩:=h;rcases h with⟨j,hj,rfl⟩|⟨s,hs,rfl⟩|⟨n,h1,h2,h3,rfl⟩|⟨es,h,rfl⟩|⟨es,h1,h2,rfl⟩
 .exact⟨h0,Å ⟨j,hj,rfl⟩⟩
 .exact⟨h0,À (Å ⟨s,hs,rfl⟩)⟩
 .exact⟨h0,À (À (Å ⟨n,h1,h2,h3,rfl⟩))⟩
 .refine⟨h0,À (À (À (Å ⟨rN i c es,λq hq=>?_,rfl⟩)))⟩;rcases ZA hq with rfl|hq
  .exact hc
  grind
 .obtain⟨h3,h4⟩:=S4 h1 h2 hk hc;exact⟨h0,À (À (À (À ⟨qI (.string k) c es,h3,h4,rfl⟩)))⟩
theorem W6{x:Int}{k:By}{c:pL}(h:pU d x (f+1) lv v)(hk:Ut k)(hc:pU d x f (lv+1) c):pU d x (f+1) lv (Dp i k c v):=by
 obtain⟨h0,h⟩:=h;rcases h with⟨j,hj,rfl⟩|⟨s,hs,rfl⟩|⟨n,h1,h2,h3,rfl⟩|⟨es,h,rfl⟩|⟨es,h1,h2,rfl⟩
 .exact⟨h0,Å ⟨j,hj,rfl⟩⟩
 .exact⟨h0,À (Å ⟨s,hs,rfl⟩)⟩
 .exact⟨h0,À (À (Å ⟨n,h1,h2,h3,rfl⟩))⟩
 .refine⟨h0,À (À (À (Å ⟨es.set i c,λq hq=>?_,rfl⟩)))⟩;grind
 .obtain⟨h3,h4⟩:=S4 h1 h2 hk hc;exact⟨h0,À (À (À (À ⟨qI (.string k) c es,h3,h4,rfl⟩)))⟩
theorem Xa{x:Int}{k:By}(h:pU d x (f+1) lv v):pU d x (f+1) lv (EG i k v):=by
 obtain⟨h0,h⟩:=h;rcases h with⟨j,hj,rfl⟩|⟨s,hs,rfl⟩|⟨n,h1,h2,h3,rfl⟩|⟨es,h,rfl⟩|⟨es,h1,h2,rfl⟩
 .exact⟨h0,Å ⟨j,hj,rfl⟩⟩
 .exact⟨h0,À (Å ⟨s,hs,rfl⟩)⟩
 .exact⟨h0,À (À (Å ⟨n,h1,h2,h3,rfl⟩))⟩
 .exact⟨h0,À (À (À (Å ⟨rH i es,λq hq=>h q (ZE hq),rfl⟩)))⟩
 .exact⟨h0,À (À (À (À ⟨qY (.string k) es,h1.filter _,λp hp=>h2 p (Đ.1 hp).1,rfl⟩)))⟩
def pV:Nat->pL->Nat
 |0,_=>0
 |f+1,d=>match d with
  |.slice es _=>2+(es.map λe=>pV f e+1).sum
  |.map es=>2+(es.map λp=>(Ai (strOf p.1)).length+2+pV f p.2).sum
  |d=>(pP (f+1) d).length
theorem Ig(f:Nat)(es:List pL):pV (f+1) (Ak es)=2+(es.map λe=>pV f e+1).sum:=rfl
theorem FH(f:Nat)(es:List (Lit×pL)):pV (f+1) (Ap es)=2+(es.map λp=>(Ai (strOf p.1)).length+2+pV f p.2).sum:=rfl
theorem JN{α:Type}{q r:α->Nat}:∀{l:List α},(∀a∈l,q a<=r a)->(l.map q).sum<=(l.map r).sum
 |[],_=>Á _
 |a::l,h=>by
  have h1:=h a φ;have h2:=JN (q:=q) (r:=r) (l:=l) λb hb=>h b (by simp[hb]);grind
theorem MM{α:Type}{q:α->Nat}:∀(l:List α),(l.map λa=>2*q a).sum=2*(l.map q).sum
 |[]=>rfl
 |a::l=>by simp only[Ð,Ĉ,MM l];omega
theorem Jf(l:List By):(Ah l).length+1 ≥ (l.map λx=>x.length+1).sum:=by
 cases l with
 |nil=>simp
 |cons x r=>grind [Ah,Ka]
theorem Sh(h1:es.Pairwise (λp q=>p.1.before q.1=true))(h2:∀p∈es,∃s,p.1=.string s):es.Pairwise (λp q=>p.1≠q.1):=by
 refine List.Pairwise.imp_of_mem ?_ h1;intro p q hp _ hb e;obtain⟨s,hs⟩:=h2 p hp;rw[<-e,hs]at hb;have h9:bytesBefore s s=true:=hb;grind [WideAt.bytes_irrefl]
theorem Zb{g:Nat}(hp:es.Pairwise (λp q=>p.1≠q.1))(hk:∀p∈es,∃x,p.1=.string x):
  DV g es<=(Ah ((rB es).map (qN g es))).length+1:=by
 refine Ã (Nat.le_of_eq ?_) (Jf _);rw[Ý];have h1:((rB es).map ((λx=>x.length+1) ∘ qN g es)).Perm ((rV es).map ((λx=>x.length+1) ∘ qN g es)):=(ĕ _ _).map _;rw[h1.sum_nat];unfold rV DV;rw[Ý];congr 1;apply ä;intro p q0;obtain⟨x,hx⟩:=hk p q0;have h2:rW es x=p.2:=by
  unfold rW;exact Ă .nil trivial hp ε
 obtain⟨k,v⟩:=p;simp only at hx h2;subst hx;simp only[Function.comp,ent,strOf];rw[uY,h2];omega
theorem Dz{d x:Int}:∀{f:Nat}{lv:Int}{v:pL},pU d x f lv v->(pP f v).length<=pV f v/\pV f v<=2*(pP f v).length
 |0,_,_,h=>h.elim
 |f+1,lv,v,⟨h0,h⟩=>by
  rcases h with⟨k,hk,rfl⟩|⟨s,hs,rfl⟩|⟨n,h1,h2,h3,rfl⟩|⟨es,h,rfl⟩|⟨es,h1,h2,rfl⟩
  .have:pV (f+1) (BG k)=(pP (f+1) (BG k)).length:=rfl;omega
  .have:pV (f+1) (Av s)=(pP (f+1) (Av s)).length:=rfl;omega
  .have:pV (f+1) (Bm n)=(pP (f+1) (Bm n)).length:=rfl;omega
  .rw[Ig,BH];have a1:=FO (es.map (pP f));have a2:=Jf (es.map (pP f));rw[Ý]at a1 a2;have b1:(es.map ((λx=>x.length+1) ∘ pP f)).sum<=(es.map λe=>pV f e+1).sum:=JN λe he=>by
    have:=(Dz (h e he)).1;grind
   have b2:(es.map λe=>pV f e+1).sum<=(es.map λe=>2*((λx:By=>x.length+1) ∘ pP f) e).sum:=JN λe he=>by
    have:=(Dz (h e he)).2;grind
   grind [MM,DA,A4]
  .have hk:∀p∈es,∃s,p.1=.string s:=λp hp=>by
    grind
   have hne:=Sh h1 hk;rw[FH,EW];have a1:=SD (g:=f) hne hk;have a2:=Zb (g:=f) hne hk;unfold DV at a1 a2;have e1:(Ah ((rB es).map (qN f es)))=Ah (((rV es).mergeSort λx y=>decide (x<=y)).map λk=>Ai k++58::pP f (rW es k)):=rfl;rw[e1]at a1 a2;have b1:(es.map (ent f)).sum<=(es.map λp=>(Ai (strOf p.1)).length+2+pV f p.2).sum:=JN λp hp=>by
    have:=(Dz (h2 p hp).2).1;unfold ent;omega
   have b2:(es.map λp=>(Ai (strOf p.1)).length+2+pV f p.2).sum<=(es.map λp=>2*ent f p).sum:=JN λp hp=>by
    have:=(Dz (h2 p hp).2).2;unfold ent;omega
   grind [MM,DA,A4]
theorem IH{α:Type}{q:α->Nat}(c:α->Bool):∀(l:List α),((l.filter c).map q).sum<=(l.map q).sum
 |[]=>Á _
 |a::r=>by
  have:=IH (q:=q) c r;grind
theorem R0{α:Type}{q:α->Nat}(x:α):∀(l:List α) (i:Nat),((l.set i x).map q).sum<=(l.map q).sum+q x
 |[],i=>φ
 |a::r,0=>ε
 |a::r,i+1=>by have:=R0 (q:=q) x r i;grind
theorem ML{x:Int}{n:pL}(h:pU d x (f+1) lv v)(hi:(AW v)[i]?=some n):pV (f+1) (EE i e v)+pV f n=pV (f+1) v+pV f e:=by
 have q4:∀{α:Type}{q:α->Nat}(y z:α) (l:List α) (i:Nat),l[i]?=some y->((l.set i z).map q).sum+q y=(l.map q).sum+q z:=by
  intro α q y z l;induction l with
  |nil=>grind
  |cons a r ih=>
   intro i h;cases i with
   |zero=>
    grind
   |succ i=>
    grind
 have q0:∀(l:List (Lit×pL)) (i:Nat),(l.map H1)[i]?=some n->((l.modify i λp=>(p.1,e)).map λp=>(Ai (strOf p.1)).length+2+pV f p.2).sum+pV f n=(l.map λp=>(Ai (strOf p.1)).length+2+pV f p.2).sum+pV f e:=by
  intro l;induction l with
  |nil=>grind
  |cons a r ih=>
   grind
 obtain⟨_,h⟩:=h;rcases h with⟨k,hk,rfl⟩|⟨s,hs,rfl⟩|⟨m,h1,h2,h3,rfl⟩|⟨es,h,rfl⟩|⟨es,h1,h2,rfl⟩
 .cases hi
 .cases hi
 .cases hi
 .have q5:es[i]?=some n:=hi;have:=q4 (q:=λe=>pV f e+1) n e es i q5;show 2+((es.set i e).map λe=>pV f e+1).sum+_=2+(es.map λe=>pV f e+1).sum+_;omega
 .have:=q0 es i hi;show 2+((es.modify i λp=>(p.1,e)).map λp=>(Ai (strOf p.1)).length+2+pV f p.2).sum+_=2+(es.map λp=>(Ai (strOf p.1)).length+2+pV f p.2).sum+_;omega
theorem Pc{d x:Int}:∀{p:List Nat}{f:Nat}{lv:Int}{v n n':pL},pU d x (f+p.length) lv v->BD p v=some n->pV (f+p.length) (AJ p n' v)+pV f n=pV (f+p.length) v+pV f n'
 |[],f,lv,v,n,n',h,hs=>by
  cases hs;show pV (f+0) n'+pV f v=pV (f+0) v+pV f n';grind
 |i::r,f,lv,v,n,n',h,hs=>by
  have h':pU d x ((f+r.length)+1) lv v:=h;rw[BD]at hs;cases hk:(AW v)[i]? with
  |none=>grind
  |some e=>
   rw[hk]at hs;show pV ((f+r.length)+1) _+_=pV ((f+r.length)+1) _+_;rw[AJ,hk];have ih:=Pc (n':=n') (Et h' hk) hs;have:=ML (e:=AJ r n' e) h' hk;grind
theorem RZ(k:By)(c:pL)(es:List (Lit×pL)):((qI (.string k) c es).map λp=>(Ai (strOf p.1)).length+2+pV f p.2).sum<=(es.map λp=>(Ai (strOf p.1)).length+2+pV f p.2).sum+((Ai k).length+2+pV f c):=by
 rw[((DQ (.string k) c es).map _).sum_nat,Ð,Ĉ];have:((qY (.string k) es).map λp=>(Ai (strOf p.1)).length+2+pV f p.2).sum<=(es.map λp=>(Ai (strOf p.1)).length+2+pV f p.2).sum:=IH _ es;have e:strOf (Lit.string k)=k:=rfl;grind
theorem WJ{a x q c:Nat}(h:x<=a+(q+2+c)):2+x<=2+a+c+q+2:=ζ
theorem VI{k:By}{c:pL}:pV (f+1) (Dr i k c v)<=pV (f+1) v+pV f c+(Ai k).length+2:=by
 unfold Dr uN;split
 .rename_i es y;show 2+((rN i c es).map λe=>pV f e+1).sum<=2+(es.map λe=>pV f e+1).sum+_+_+_;rw[((FK i c es).map _).sum_nat,Ð,Ĉ];omega
 .rename_i es;have:=RZ (f:=f) k c es;exact WJ this
 .omega
theorem VF{k:By}{c:pL}:pV (f+1) (Dp i k c v)<=pV (f+1) v+pV f c+(Ai k).length+2:=by
 unfold Dp uN;split
 .rename_i es y;have:=R0 (q:=λe=>pV f e+1) c es i;show 2+((es.set i c).map λe=>pV f e+1).sum<=2+(es.map λe=>pV f e+1).sum+_+_+_;omega
 .rename_i es;have:=RZ (f:=f) k c es;exact WJ this
 .omega
theorem VG{k:By}:pV (f+1) (EG i k v)<=pV (f+1) v:=by
 unfold EG uN;split
 .rename_i es y;have h:((rH i es).map λe=>pV f e+1).sum<=(es.map λe=>pV f e+1).sum:=by
   by_cases hi:i<es.length
   .rw[((Hg (Ô hi)).map (λe=>pV f e+1)).sum_nat,Ð,Ĉ];omega
   .unfold rH;rw[í ζ,ĉ,Ï ζ];omega
  show 2+((rH i es).map λe=>pV f e+1).sum<=2+(es.map λe=>pV f e+1).sum;omega
 .rename_i es;have:((qY (.string k) es).map λp=>(Ai (strOf p.1)).length+2+pV f p.2).sum<=(es.map λp=>(Ai (strOf p.1)).length+2+pV f p.2).sum:=IH _ es;show 2+((qY (.string k) es).map λp=>(Ai (strOf p.1)).length+2+pV f p.2).sum<=2+(es.map λp=>(Ai (strOf p.1)).length+2+pV f p.2).sum;omega
 .omega
theorem Iq:(AW v).length<=pV (f+1) v:=by
 have h1:∀{α:Type}{q:α->Nat}(l:List α),(∀a,1<=q a)->l.length<=(l.map q).sum:=by
  intro α q l hq;induction l with
  |nil=>simp
  |cons a r ih=>grind
 unfold AW;split
 .rename_i es;have:=h1 (q:=λp:Lit×pL=>(Ai (strOf p.1)).length+2+pV f p.2) es λp=>ζ;show(es.map H1).length<=2+(es.map λp:Lit×pL=>(Ai (strOf p.1)).length+2+pV f p.2).sum;grind
 .rename_i es y;have:=h1 (q:=λe:pL=>pV f e+1) es λp=>ζ;show es.length<=2+(es.map λe:pL=>pV f e+1).sum;omega
 .simp
theorem LM{d x:Int}:∀{p:List Nat}{f:Nat}{lv:Int}{v n:pL},pU d x (f+p.length) lv v->BD p v=some n->pV f n<=pV (f+p.length) v
 |[],f,lv,v,n,h,hs=>by
  grind [BD]
 |i::r,f,lv,v,n,h,hs=>by
  have h':pU d x ((f+r.length)+1) lv v:=h;rw[BD]at hs;cases hk:(AW v)[i]? with
  |none=>grind
  |some e=>
   rw[hk]at hs;have ih:=LM (Et h' hk) hs;have h1:=ML (e:=.nil) h' hk;have h2:pV (f+r.length) (.nil:pL)=0:=by cases f+r.length<;>rfl
   grind
theorem F4{d x:Int}:∀{f g:Nat}{lv:Int}{v:pL},pU d x f lv v->f<=g->pV g v=pV f v
 |0,_,_,_,h,_=>h.elim
 |f+1,0,_,_,_,h=>ζ
 |f+1,g+1,lv,v,⟨h0,h⟩,hg=>by
  rcases h with⟨k,hk,rfl⟩|⟨s,hs,rfl⟩|⟨n,h1,h2,h3,rfl⟩|⟨es,h,rfl⟩|⟨es,h1,h2,rfl⟩
  .rfl
  .rfl
  .rfl
  .rw[Ig,Ig];congr 2;exact ä λe he=>by rw[F4 (h e he) ζ]
  .rw[FH,FH];congr 2;exact ä λp hp=>by rw[F4 (h2 p hp).2 ζ]
def nv(x:By×Bool×Bool):B1:=.agg #[.string ⟨x.1.toArray⟩,.bool x.2.1,.bool x.2.2]
def EJ(x:By×Bool×Bool):Lit:=.string (keyBytes [.string x.1,.bool x.2.1,.bool x.2.2])
theorem nQ:laidOutB AI=true:=δ
theorem lG:(219:TypeId)<Tryz.prog.types.size:=of_decide_eq_true δ
theorem nka:Tryz.prog.keyTypeAt 2 219=true:=δ
theorem Zm:Keyed AI 219:=Keyed.of_law (deep_law_laid nQ (m:=2) ζ lG nka (by rw[underlying219]))
theorem nkl(x:By×Bool×Bool):F5 (EJ x):=by unfold EJ;exact trivial
theorem nkt:Tryz.prog.keyType 219=true:=δ
theorem Wu:Tryz.prog.cellsOf 219=3:=δ
theorem ncs:Tryz.prog.cellsOf 9=1:=δ
theorem ncb:Tryz.prog.cellsOf 4=1:=δ
theorem nsz:∃m,Tryz.prog.types.size=m+1:=⟨Tryz.prog.types.size-1,by have:=lG;unfold TypeId at this;omega⟩
theorem Up(x:By×Bool×Bool)(h:x.1.length<=1048576):keyOf AI 219 (nv x)=some (EJ x):=by
 obtain⟨m,hm⟩:=nsz;have hl:(⟨x.1.toArray⟩:ByteArray).size<=DD:=by rw[AD];unfold DD;omega
 unfold keyOf nv EJ;rw[underlying219];simp only[nkt,Value.formed,underlying219,Wu,hm];simp[Program.keyLits,underlying219,underlying9,underlying4,Wu,ncs,ncb,HZ,hl]
theorem PK{y:By×Bool×Bool}(h1:x.1.length<=1048576)(h2:y.1.length<=1048576)(h:EJ x=EJ y):x=y:=by
 have:=Zm.inj (Up x h1) (h▸Up y h2);obtain⟨a,b,c⟩:=x;obtain⟨a',b',c'⟩:=y;unfold nv at this;grind
def L5:List (By×Bool×Bool):=[(G0,true,false),(Df,false,false),(CK,true,false),(F8,false,true),(uO,false,true),(F3,true,false)]
def opN(k:Nat):By×Bool×Bool:=L5.getD k ([],false,false)
theorem nO(w:AS):(AT 220 (.agg C8) (InB 0)).run AI w=.ok (nv (opN 0)) w:=δ
theorem nN(w:AS):(AT 220 (.agg C8) (InB 1)).run AI w=.ok (nv (opN 1)) w:=δ
theorem nM(w:AS):(AT 220 (.agg C8) (InB 2)).run AI w=.ok (nv (opN 2)) w:=δ
theorem nL(w:AS):(AT 220 (.agg C8) (InB 3)).run AI w=.ok (nv (opN 3)) w:=δ
theorem nK(w:AS):(AT 220 (.agg C8) (InB 4)).run AI w=.ok (nv (opN 4)) w:=δ
theorem nJ(w:AS):(AT 220 (.agg C8) (InB 5)).run AI w=.ok (nv (opN 5)) w:=δ
theorem kX(k:Nat)(hk:k<6)(w:AS):(AT 220 (.agg C8) (InB k)).run AI w=.ok (nv (opN k)) w:=by
 match k,hk with
 |0,_=>exact nO w
 |1,_=>exact nN w
 |2,_=>exact nM w
 |3,_=>exact nL w
 |4,_=>exact nK w
 |5,_=>exact nJ w
theorem Kx(k:Nat)(hk:k<6):(opN k).1.length<=1048576:=by
 match k,hk with
 |0,_=>decide
 |1,_=>decide
 |2,_=>decide
 |3,_=>decide
 |4,_=>decide
 |5,_=>decide
theorem fM(hi:i<6)(hj:j<6)(h:opN i=opN j):i=j:=by
 have:∀i,i<6 ->∀j,j<6->opN i=opN j->i=j:=η;grind
def nD:Nat->Bs B1
 |0=>.map []
 |k+1=>(nD k).put (EJ (opN k)) (.lit (.int .i64 k))
theorem PM:∀k,IsMap (nD k)
 |0=>⟨[],rfl⟩
 |k+1=>(PM k).put _ _
theorem Wv{i:Nat}:∀{k:Nat},k<=6->i<k->has (nD k) (EJ (opN i))=true/\∀z,(nD k).atKey (EJ (opN i)) z=.lit (.int .i64 i)
 |0,_,h=>absurd h ζ
 |k+1,hk,h=>by
  by_cases e:i=k
  .subst e;exact⟨has_put_same (PM _) (nkl _) _,λz=>atKey_put_same (PM _) (nkl _) _ _⟩
  .have hne:EJ (opN i)≠EJ (opN k):=λh2=>e (fM ζ ζ (PK (Kx _ ζ) (Kx _ ζ) h2));obtain⟨h1,h2⟩:=Wv (k:=k) (i:=i) ζ ζ;exact⟨(C6 hne _).trans h1,λz=>(G2 hne _ _).trans (h2 z)⟩
theorem cY{x:By×Bool×Bool}(hx:x.1.length<=1048576):∀{k:Nat},k<=6->(∀i,i<k->x≠opN i)->has (nD k) (EJ x)=false
 |0,_,_=>rfl
 |k+1,hk,h=>by
  have hne:EJ x≠EJ (opN k):=λh2=>h k ζ (PK hx (Kx _ ζ) h2);exact(C6 hne _).trans (cY hx ζ λi hi=>h i ζ)
def sO(x:By×Bool×Bool):Option Nat:=L5.findIdx? (·==x)
theorem wM(h:sO x=none)(i:Nat)(hi:i<6):x≠opN i:=by
 rintro rfl;have:∀i,i<6->sO (opN i)≠none:=η;grind
theorem wN(h:sO x=some k):k<6/\x=opN k:=by
 unfold sO at h;obtain⟨h1,h2,_⟩:=List.findIdx?_eq_some_iff_getElem.1 h;have h3:L5[k]=x:=ε;exact⟨h1,by grind [sO,List.getD,opN]⟩
def uV(x:By×Bool×Bool):Option Nat:=(sO (x.1,false,false)).orElse λ_=>(sO (x.1,x.2.1,false)).orElse λ_=>sO (x.1,false,x.2.2)
theorem wO(x:By×Bool×Bool):uV x=BJ x.1 x.2.1 x.2.2:=by
 obtain⟨n,a,b⟩:=x;by_cases h0:n=Df
 .subst h0;rfl
 by_cases h1:n=G0
 .subst h1;revert a b;decide
 by_cases h2:n=CK
 .subst h2;revert a b;decide
 by_cases h3:n=F3
 .subst h3;revert a b;decide
 by_cases h4:n=F8
 .subst h4;revert a b;decide
 by_cases h5:n=uO
 .subst h5;revert a b;decide
 have e0:(Df==n)=false:=ε;have e1:(G0==n)=false:=ε;have e2:(CK==n)=false:=ε;have e3:(F3==n)=false:=ε;have e4:(F8==n)=false:=ε;have e5:(uO==n)=false:=ε;have pe:∀(m:By) (c d e f:Bool),((m,c,d)==(n,e,f))=(m==n && ((c,d)==(e,f))):=λ_ _ _ _ _=>rfl;unfold uV sO BJ L5;simp_all
noncomputable abbrev KE(v:B1):Option (Bs B1×List MemPlace):=plainElem AI 176 v
theorem Uz(hk:k<6):KE (.int .i64 k)=some (.lit (.int .i64 k),[]):=plainElem_int underlying176 (by
 match k,hk with
 |0,_=>decide
 |1,_=>decide
 |2,_=>decide
 |3,_=>decide
 |4,_=>decide
 |5,_=>decide)
theorem nV(w:AS):(zeroValue 176).run AI w=.ok (InB 0) w:=δ
theorem WM{w:AS}(hT:Jy w):
  B2 AI 114 #[] w λe w'=>∃m,e=.returned (.map (some m))/\w.1.size<=m/\w'.ownsMap AI 219 KE m 6 (nD 6)/\Bl w w':=by
 have qg:=@run_makeMap AI;have hlt:3<w.1.size:=by obtain⟨t,fr,e⟩:=hT;grind
 obtain⟨tt,fz,q7⟩:=hT;have q4:Bl w (w.alloc (.map #[] 0)):=(Â _ _).alloc (Á _) _;have hg2:=(q4.block _ hlt).trans q7;have H0:=Ab (show Bl w (w.alloc (.map #[] 0))/\(w.alloc (.map #[] 0)).ownsMap AI 219 KE w.1.size 0 (nD 0)from⟨q4,D9 w AI 219 KE⟩);have q0:=Ab Zm;clear q7 q4 hlt;go_enter func114,ntmps114;go_wp2_with (refine F2 rfl 220 _ rfl 3 rfl tt _ fz _ hg2 underlying220 rfl δ ?_);clear hg2;go_loopw [6] (λi wr=>∃k:Nat,k<=6/\i=.int .i64 k/\Hid (Bl w wr/\wr.ownsMap AI 219 KE w.1.size k (nD k))) (λi _=>6-(CR i).toNat)
 case atStart=>grind
 case round=>
  obtain⟨k,hk,rfl,HI⟩:=hrel;by_cases h6:k=6
  .subst h6;go_wp2;go_ret;exact⟨_,rfl,Á _,HI.u.2,HI.u.1⟩
  .have q6:k<6:=ζ;have qf:(k:Int)<6:=ζ;have q5:=λw1=>kX k q6 w1;have qd:=Ab (Up (opN k) (Kx k q6));have HO:=Ab (HI.u.2.alloc (.cells #[.string ⟨(opN k).1.toArray⟩,.bool (opN k).2.1,.bool (opN k).2.2] 219));have HN:=Ab (show k<DD by unfold DD;omega);have HV:=Ab (Uz q6);have HB:=Ab (HI.u.1.alloc HI.u.1.size (.cells #[.string ⟨(opN k).1.toArray⟩,.bool (opN k).2.1,.bool (opN k).2.2] 219));unfold nv at q5;clear HI H0;go_wp2_with (first|(at_mapUpdate;refine ĸ _ rfl _ _ _ 174 rfl 219 176 q0.u underlying174 KE w.1.size k (nD k) rfl HO.u HN.u _ _ _ rfl rfl qd.u (.lit (.int .i64 k)) [] HV.u ?_));intro w6 q9 q8;have qe:=Ab q9;have qb:=Ab (HB.u.grown q8 HB.u.size ε);clear q9 q8;go_wp2;exact⟨⟨k+1,ζ,ψ,qb.u,qe.u⟩,by simp[CR];omega⟩
def en(x:By×Bool×Bool)(j:Nat):By×Bool×Bool:=if j=0 then(x.1,false,false)else if j=1 then(x.1,x.2.1,false)else(x.1,false,x.2.2)
def enC(s:ByteArray)(a b:Bool):Array B1:=#[.string s,.bool false,.bool false,.string s,.bool a,.bool false,.string s,.bool false,.bool b]
theorem pJ(s:ByteArray)(a b:Bool)(w:AS):(AT 259 (.agg (enC s a b)) (InB 0)).run AI w=.ok (.agg #[.string s,.bool false,.bool false]) w:=δ
theorem pI(s:ByteArray)(a b:Bool)(w:AS):(AT 259 (.agg (enC s a b)) (InB 1)).run AI w=.ok (.agg #[.string s,.bool a,.bool false]) w:=δ
theorem pH(s:ByteArray)(a b:Bool)(w:AS):(AT 259 (.agg (enC s a b)) (InB 2)).run AI w=.ok (.agg #[.string s,.bool false,.bool b]) w:=δ
theorem lY(x:By×Bool×Bool)(j:Nat)(hj:j<3)(w:AS):(AT 259 (.agg (enC ⟨x.1.toArray⟩ x.2.1 x.2.2)) (InB j)).run AI w=.ok (nv (en x j)) w:=by
 match j,hj with
 |0,_=>exact pJ _ _ _ w
 |1,_=>exact pI _ _ _ w
 |2,_=>exact pH _ _ _ w
theorem Xo(h:x.1.length<=1048576):(en x j).1.length<=1048576:=by unfold en;grind
theorem UK(hj:j<3)(h:∀q,q<j->sO (en x q)=none)(hk:sO (en x j)=some k):uV x=some k:=by
 unfold uV
 match j,hj with
 |0,_=>rw[show sO (x.1,false,false)=some k from hk];rfl
 |1,_=>rw[show sO (x.1,false,false)=none from h 0 ζ,show sO (x.1,x.2.1,false)=some k from hk];rfl
 |2,_=>rw[show sO (x.1,false,false)=none from h 0 ζ,show sO (x.1,x.2.1,false)=none from h 1 ζ,show sO (x.1,false,x.2.2)=some k from hk];rfl
theorem Rn(h:∀q,q<3->sO (en x q)=none):uV x=none:=by
 unfold uV;rw[show sO (x.1,false,false)=none from h 0 ζ,show sO (x.1,x.2.1,false)=none from h 1 ζ,show sO (x.1,false,x.2.2)=none from h 2 ζ];rfl
def OX(r:Option Nat):B1:=.tuple #[InB (r.getD 0:Nat),.bool r.isSome]
theorem J7{w:AS}{D:Bs B1}(h:w.ownsMap AI 219 KE m n D)(hk:w'.1[m]?=w.1[m]?):w'.ownsMap AI 219 KE m n D:=by
 obtain⟨es,q0,hb,r⟩:=h;exact⟨es,q0,hk.trans hb,r⟩
theorem aD{w:AS}(ho:w.ownsMap AI 219 KE m 6 (nD 6))(hx:x.1.length<=1048576):
  CB 150 #[.map (some m),nv x] w (OX (uV x)):=by
 obtain⟨R,hR⟩:∃R,R=OX (uV x):=⟨_,rfl⟩
 rw[<-hR];have HR:=Ab hR;have q0:=Ab Zm;have HO:=Ab ho;have HX:=Ab hx;have qh:m<w.1.size:=by obtain⟨es,qd,hb,_⟩:=ho;grind
 have qj:=Ab qh;have q9:=Ab (λw=>nV w);have q6:=Ab (λj hj w=>lY x j hj w);unfold enC at q6;unfold nv;generalize (⟨x.1.toArray⟩:ByteArray)=sx at*;obtain⟨va,hva⟩:∃va,va=x.2.1:=⟨_,rfl⟩
 obtain⟨vb,hvb⟩:∃vb,vb=x.2.2:=⟨_,rfl⟩
 rw[<-hva,<-hvb]at q6 |-;clear hR ho hx qh hva hvb;go_enter func150,ntmps150;go_wp2;go_loopw [26] (λi wr=>∃j:Nat,j<=3/\i=.int .i64 j/\Hid (Bl w wr/\∀q,q<j->sO (en x q)=none)) (λi _=>3-(CR i).toNat)
 case atStart=>exact⟨0,ζ,rfl,((Â _ _).alloc (Á _) _).alloc φ _,ζ⟩
 case round=>
  obtain⟨j,hj,rfl,HI⟩:=hrel;by_cases h3:j=3
  .subst h3;have HV:=Ab (show R=OX none by rw[HR.u,Rn HI.u.2]);go_wp2;go_ret2;exact⟨by rw[HV.u];rfl,HI.u.1⟩
  .have qg:j<3:=ζ;have qm:(j:Int)<3:=ζ;have q7:=λw1=>q6.u j qg w1;unfold nv at q7;have q8:=Ab (Up (en x j) (Xo HX.u));have HB:=Ab (HI.u.1.alloc HI.u.1.size (.cells #[.string ⟨(en x j).1.toArray⟩,.bool (en x j).2.1,.bool (en x j).2.2] 219));have qb:=Ab (J7 HO.u (HB.u.block m qj.u));cases hn:sO (en x j)with
   |none=>
    have HH:=Ab (cY (k:=6) (Xo (j:=j) HX.u) (Á _) λi hi=>wM hn i hi);have q4:=Ab (show∀q,q<j+1->sO (en x q)=none from λq hq=>if e:q=j then e▸hn else HI.u.2 q ζ);clear hn HI;go_wp2_with (first|(at_lookup;refine ï _ rfl _ _ 174 rfl 219 176 q0.u underlying174 KE (q9.u _) (.lit (.int .i64 0)) [] (Uz (k:=0) ζ) m 6 (nD 6) rfl qb.u _ _ rfl q8.u ?_;intro v2 qn q5;clear q5;rw[HH.u]));exact⟨⟨j+1,ζ,ψ,HB.u,q4.u⟩,by simp[CR];omega⟩
   |some k=>
    obtain⟨qk,qf⟩:=wN hn;obtain⟨hh,qe⟩:=Wv (k:=6) (i:=k) (Á _) qk;rw[<-qf]at hh qe;have HV:=Ab (show R=.tuple #[.int .i64 k,.bool true] by rw[HR.u,UK qg HI.u.2 hn];rfl);have HH:=Ab hh;have qi:=Ab (λ(v:B1) (ps:List MemPlace) (h:KE v=some ((nD 6).atKey (EJ (en x j)) (.lit (.int .i64 0)),ps))=>(show v=.int .i64 k from by
     obtain⟨c,e1,e2,_⟩:=plainElem_int_inv underlying176 h;grind))
    clear hn HI qf hh qe;go_wp2_with (first|(at_lookup;refine ï _ rfl _ _ 174 rfl 219 176 q0.u underlying174 KE (q9.u _) (.lit (.int .i64 0)) [] (Uz (k:=0) ζ) m 6 (nD 6) rfl qb.u _ _ rfl q8.u ?_;intro v2 qn q5;obtain rfl:=qi.u _ _ q5;clear q5;rw[HH.u]));go_ret2;exact⟨by rw[HV.u];rfl,HB.u⟩
def KA(l:Array Bool):Nat:=l.toList.countP (! ·)
theorem WH(h:l.getD i true=false):KA (l.setIfInBounds i true)+1=KA l:=by
 have hi:i<l.size:=by
  grind
 have hv:l.toList[i]'ζ=false:=κ;unfold KA;grind
theorem Uv(h:KA l=0)(i:Nat):l.getD i true=true:=by
 by_cases hi:i<l.size
 .have h1:=List.countP_eq_zero.1 h l[i] φ;simp_all
 grind
theorem DE(h:i∈BY md ops l):l.getD i true=false/\∀o,ops[i]?=some o ->∀e∈o.after,E2 md e=true->l.getD e.on false=true:=by
 obtain⟨h1,o,h2,h3⟩:=mem_ready.1 h;grind
theorem JG{P:Program}{Q:Exit->Act->AS->Prop}(I:Array Bool->Act->AS->Prop)(hs:∀l a w,I l a w ->∀i,i∈BY md ops l->wpOp P ops Q i (I (l.setIfInBounds i true)) a w)(he:∀l a w,I l a w->BY md ops l=[]->Q .normal a w):∀(q0:Nat) (l:Array Bool) (a:Act) (w:AS),KA l<=q0->I l a w->wpAny P md ops Q q0 l a w:=by
 intro q0;induction q0 with
 |zero=>
  intro l a w hl hi;have hr:BY md ops l=[]:=by
   rw[List.eq_nil_iff_forall_not_mem];intro i hm;have h1:=(DE hm).1;rw[Uv ζ i]at h1;cases h1
  exact⟨hr,he l a w hi hr⟩
 |succ n ih=>
  intro l a w hl hi;refine⟨λhr=>he l a w hi hr,λi hm=>wpOp_mono (λa' w' h'=>ih _ a' w' ?_ h') (hs l a w hi i hm)⟩;have:=WH (DE hm).1;omega
def Kq(md:HW)(ops:Array Oper)(l:Array Bool):Prop:=∀i o,ops[i]?=some o->l.getD i false=true ->∀e∈o.after,E2 md e=true->l.getD e.on false=true
theorem Kq.next(h:Kq md ops l)(hi:i∈BY md ops l):Kq md ops (l.setIfInBounds i true):=by
 intro j o ho hj e he hb;by_cases q0:i=j
 .subst q0;exact ú ((DE hi).2 o ho e he hb)
 .exact ú (h j o ho ((Ú _ q0).symm.trans hj) e he hb)
theorem TC{P:Program}{Q:Exit->Act->AS->Prop}(I:Array Bool->Act->AS->Prop)(hs:∀l a w,Kq md ops l->I l a w ->∀i,i∈BY md ops l->wpOp P ops Q i (I (l.setIfInBounds i true)) a w)(he:∀l a w,I l a w->BY md ops l=[]->Q .normal a w)(n:Nat)(a:Act)(w:AS)(h:I (G3 n false) a w):wpAny P md ops Q n (G3 n false) a w:=by
 refine JG (λl a w=>Kq md ops l/\I l a w) (λl a w hI i hi=>?_) ε n _ a w ?_ ⟨?_,h⟩
 .exact wpOp_mono (λa' w' h'=>⟨hI.1.next hi,h'⟩) (hs l a w hI.1 hI.2 i hi)
 .unfold KA;refine Ã List.countP_le_length ?_;simp
 .intro i o _ hi;exfalso;rw[Array.getD_eq_getD_getElem?,Array.getElem?_replicate]at hi;grind
theorem IL(hsz:l.size=ops.size)(hw:(List.range ops.size).all (λi=>((ops[i]?).map λo=>o.after.all λe=>!E2 md e || decide (e.on<i)).getD true)=true)(h:BY md ops l=[]):∀i,i<ops.size->l.getD i false=true:=by
 intro i;induction i using Nat.strongRecOn with
 |ind i ih=>
  intro hi;by_cases hv:l.getD i false=true
  .exact hv
  .exfalso;have q0:i<l.size:=ζ;have:i∈BY md ops l:=by
    refine mem_ready.2 ⟨ε,ops[i],ε,λe he hb=>?_⟩;have h1:=List.all_eq_true.1 hw i (by simpa using hi);rw[Array.getElem?_eq_getElem hi]at h1;simp only[Ċ,Ģ]at h1;have h2:=Array.all_eq_true_iff_forall_mem.1 h1 e he;grind
   grind
theorem unN{b:Bool}(h':(l.setIfInBounds i true).getD j false=b)(h:i≠j:=by decide):l.getD j false=b:=(Ú _ h).symm.trans h'
theorem Ae{p:Prop}(e:l.getD j false=true->p)(h:i≠j:=by decide):(l.setIfInBounds i true).getD j false=true->p:=λh'=>e (unN h' h)
theorem aP{c:Nat}(hc:Sc c):(AF (CD (c:Int))).length<=6/\(128<=c->(AF (CD (c:Int))).length<=4):=by
 by_cases h:c<128
 .rw[DF c h];refine⟨?_,λh2=>ζ⟩;have:=Qc (H2 c);grind [AF]
 .have h4:=Gp (c:Int);rw[On _ (GV c ζ hc []).1];omega
theorem UZ(n a b c d:Nat):(C2 n a b c d).1<128\/((C2 n a b c d).1=65533/\(C2 n a b c d).2<2)\/2<=(C2 n a b c d).2:=by
 grind [C2]
theorem XF(l:By)(h:l≠[])(h2:128<=(rC l).1)(h3:¬((rC l).1=65533/\(rC l).2<2)):2<=(rC l).2:=by
 rw[Dt l h]at h2 h3 |-;rcases UZ l.length (l.getD 0 0).toNat (l.getD 1 0).toNat (l.getD 2 0).toNat (l.getD 3 0).toNat with h4|h4|h4
 .omega
 .omega
 .exact h4
theorem bO{l:By}{c:Nat}(h:rP l=some (c,r)):(AF (CD (c:Int))).length+3*r.length<=3*l.length:=by
 have q0:=XR h;have q4:=aP q0;unfold rP at h;split at h
 .rename_i k;have k1:=AV k;unfold rM at h;split at h
  .rename_i k2;have k3:=AV k2;have:=Pm _ _ _ h;omega
  .have:=Oo _ DH η _ _ h;omega
 .split at h
  .cases h
  .rename_i hn;cases h;have hne:l≠[]:=by
    rintro rfl;exact hn (À ⟨rfl,η⟩)
   have q5:=XH l;have hpos:=M5 l hne;rw[Ŏ];by_cases h8:(rC l).1<128
   .have e:AF (CD ((rC l).1:Int))=BE (H2 (rC l).1):=by rw[DF _ h8];simp[AF]
    grind [List.length_drop,AF,UInt8.toNat_ofNat',rP,rM,BE]
   .have:=XF l hne ζ (λh=>hn (À h));omega
theorem Ov:∀(f:Nat) (l s r:By),Ck f l=some (s,r)->(AF s).length+3*r.length+3<=3*l.length
 |0,_,_,_,h=>by cases h
 |f+1,l,s,r,h=>by
  unfold Ck at h;split at h
  .rename_i k;have:=AV k;grind [AF,Jm,A4]
  .split at h
   .cases h
   .rename_i c r1 hc;have h1:=bO hc;split at h
    .cases h
    .rename_i s1 r2 hx;have h3:=Ov f _ _ _ hx;grind [AF,Jm,A4]
theorem Pu{l:By}(h:rJ l=some (s,r)):(Ai s).length+3*r.length<=3*l.length:=by
 unfold rJ at h;split at h
 .rename_i k;have k1:=AV k;have:=Ov _ _ _ _ h;grind [DA,A4,D0,rJ,Ai]
 .cases h
def uW(n:Nm):Nat:=if n.2.2=0 then(BI n).length else n.2.1.length+6
theorem Z3{l f:By}(h:B5 l=some (f,r)):f.length+r.length<=l.length/\(f≠[]->f.length+1+r.length<=l.length):=by
 refine⟨Fj h,λhf=>?_⟩;unfold B5 at h;have b:=Cw l.tail;split at h
 .rename_i k;have:=AV k;grind
 grind
theorem aG{l:By}{e:Int}(h:AY l=some (e,r)):r.length<=l.length/\(e≠0->r.length+1<=l.length):=by
 unfold AY at h;have a:=Cw l.tail;have b:=Cw l.tail.tail;have c:=į (l:=l);have d:=į (l:=l.tail);split at h
 .rename_i k;have hl:l.tail.length+1=l.length:=by
   simp only[Ķ]at k;rcases k with k|k<;>exact AV k
  grind
 grind
theorem N3{b:Bool}{l:By}{n:Nm}(h:BM b l=some (n,r)):uW n+1+4*r.length<=4*l.length+(if b then 4 else 0):=by
 unfold BM at h;have a:=Cw l;split at h
 .cases h
 .rename_i hd;have q0:0<(dg l).length:=ε;split at h
  .cases h
  .rename_i f r1 h1;obtain⟨f1,f2⟩:=Z3 h1;split at h
   .cases h
   .rename_i e r2 h2;obtain⟨e1,e2⟩:=aG h2;injection h with h;injection h with h3 h4;subst h4 h3;have t1:=Ha (dg l++f) 48;have t2:=FF (D3 (dg l++f) 48) 48;rw[Ñ]at t1;unfold Ce;simp only;split
    .grind [D0,A4,BM,Ce,uW,BI]
    .rename_i hw;have q4:0<(HG (D3 (dg l++f) 48) 48).length:=Ē.2 hw;unfold uW;split
     .grind [D0,A4,BM,Ce,uW,BI]
     .rename_i h0;simp only at h0 |-;have hx:(HG (D3 (dg l++f) 48) 48).length+1+r2.length<=l.length:=by
       by_cases hf:f=[]
       .grind
       grind
      omega
theorem Zi{l:By}{n:Nm}(h:rO l=some (n,r)):uW n+1+4*r.length<=4*l.length:=by
 unfold rO at h;split at h
 .rename_i k;have k1:=AV k;have:=N3 h;grind
 .have:=N3 h;grind
def cm:Nat->pL->Nat
 |0,_=>0
 |f+1,d=>match d with
  |.slice es _=>2+(es.map λe=>cm f e+1).sum
  |.map es=>2+(es.map λp=>(Ai (strOf p.1)).length+2+cm f p.2).sum
  |.agg [.lit (.bool ng),.lit (.string ds),.lit (.int _ ex)]=>uW (ng,ds,ex)
  |d=>(pP (f+1) d).length
theorem lJ(n:Int)(h0:-400<=n)(h1:n<=400):(Lib.itoa n).length<=4:=by
 have h:∀k:Fin 801,(Lib.itoa ((k.val:Int)-400)).length<=4:=by decide +kernel
 have:=h ⟨(n+400).toNat,ζ⟩;grind
theorem TG{d x:Int}(hx:x<=400):∀{f:Nat}{lv:Int}{v:pL},pU d x f lv v->pV f v<=cm f v
 |0,_,_,h=>h.elim
 |f+1,lv,v,⟨h0,h⟩=>by
  rcases h with⟨k,hk,rfl⟩|⟨s,hs,rfl⟩|⟨n,h1,h2,h3,rfl⟩|⟨es,h,rfl⟩|⟨es,h1,h2,rfl⟩
  .exact Á _
  .exact Á _
  .show (BI n).length<=uW n;unfold uW;split
   .omega
   .rename_i hne;have h4:=lJ n.2.2 ζ ζ;unfold BI;rw[if_neg hne];split
    .simp
    .simp only[Ñ,É];split<;>simp<;>omega
  .show 2+(es.map λe=>pV f e+1).sum<=2+(es.map λe=>cm f e+1).sum;have:∀l:List pL,(∀e∈l,pU d x f (lv+1) e)->(l.map λe=>pV f e+1).sum<=(l.map λe=>cm f e+1).sum:=λl hl=>by
    induction l with
    |nil=>grind
    |cons a l ih=>
     have h5:=TG hx (hl a â);grind
   grind
  .show 2+(es.map λp=>(Ai (strOf p.1)).length+2+pV f p.2).sum<=2+(es.map λp=>(Ai (strOf p.1)).length+2+cm f p.2).sum;have:∀l:List (Lit×pL),(∀p∈l,pU d x f (lv+1) p.2)->(l.map λp=>(Ai (strOf p.1)).length+2+pV f p.2).sum<=(l.map λp=>(Ai (strOf p.1)).length+2+cm f p.2).sum:=λl hl=>by
    induction l with
    |nil=>grind
    |cons a l ih=>
     have h5:=TG hx (hl a â);grind
   grind
