import Derived.Test.YtdpomdelmdofmaaGreatDoorP18
import Derived.Test.YtdpomdelmdofmaaGreatDoorP15
open Go renaming Value->AI,World->AS,undef->AT,callsIn_of_wp_marks->B4,run_takeDeferred->CH,maxLen->CR,Calls->C1
open Go.Proofs.Tryz renaming prog->A1
open Go.World renaming setCell->A2,cell?->A5,putObj->C0
open Array renaming replicate_succ->A3,replicate_zero->A4
open List renaming append_toArray->BY,push_toArray->B2
open Go.Value renaming ownBlock->B1,oneCell'->CL
open Nat renaming reduceAdd->B3,reduceSub->CD
open Go.Fence renaming wide->C2
open Go.Lib renaming cut->C5
set_option maxRecDepth 100000
set_option maxHeartbeats 8000000
namespace Go.Proofs.YtdpomdelmdofmaaGreatDoor
open Go.Proofs.Tryz Go.RowKit Go.Maps
variable{cap:Nat}{W:AS}
theorem Mx.kept{w w':AS}(h:Mx w)(hb:Bl w w'):Mx w':=by
 obtain⟨m,h⟩:=h;exact⟨m,(hb.cell (p:=⟨6,0,none⟩) (Lib.lt_of_cell h)).trans h⟩
theorem iU(l:By)(w:AS)(h:l.length<=1048576)(hm:Mx w):
  C1 A1 145 #[.string ⟨l.toArray⟩,.string ⟨#[126]⟩] w λe w'=>e=.returned (.tuple #[.string ⟨(C5 l [126]).1.toArray⟩,.string ⟨(C5 l [126]).2.1.toArray⟩,.bool (C5 l [126]).2.2])/\∃n,w'=w.drewN n:=by
 obtain⟨m,hm⟩:=hm;exact Tryz.strings_Cut ⟨l.toArray⟩ ⟨#[126]⟩ m w (by rw[AD];omega) hm
theorem dG{x:ByteArray}{l:By}(h:x.data.toList=l):x=⟨l.toArray⟩:=by
 cases x with
 |mk d=>simp at h;subst h;simp
theorem Qa(l:By)(k:Nat):(⟨l.toArray⟩:ByteArray).extract k l.length=⟨(l.drop k).toArray⟩:=by
 apply dG;by_cases hk:k<=l.length
 .have h1:=Jl ⟨l.toArray⟩ k (l.length-k);rw[show k+(l.length-k)=l.length from ζ]at h1;rw[h1];show(l.drop k).take (l.length-k)=l.drop k;exact Ï φ
 .rw[í ζ];apply ê;simp;omega
def jT(o:Option By)(e:Ending):Prop:=match o with
 |some s=>e=.returned (.tuple #[.string ⟨s.toArray⟩,.bool true])
 |none=>e=.returned (.tuple #[.string ⟨#[]⟩,.bool false])
theorem O5{l:By}{w:AS}(hn:l.length<=1048576)(hT:Fq w)(hm:Mx w):
  C1 A1 110 #[.string ⟨l.toArray⟩] w λe w'=>jT (qC l) e/\Bl w w':=by
 have qg:=(Â w.1.size w).alloc (Á _) (.cells #[.pointer none,.slice none 0 0] 119);have h0:Bu w.1.size w.1.size [] (w.alloc (.cells #[.pointer none,.slice none 0 0] 119)):=Å ⟨Á _,.slice none 0 0,by show(w.1.push _)[w.1.size]?=_;simp,å _ _ _ _,by simp[B1]⟩;have HT:=Ab hT;have HM:=Ab hm;have qi:=Ab qg;have H0:=Ab h0;have HN:=Ab hn;clear hT hm qg h0 hn;go_enter func110,ntmps110;go_wp2;go_loopw [0] (λa wr=>∃l' q4,a=.string ⟨l'.toArray⟩/\Hid (Bu w.1.size w.1.size q4 wr)/\Hid (Bl w wr)/\Hid (qC l=(qC l').map (q4 ++ ·))/\q4.length+l'.length<=l.length)
  (λa _=>match a with|.string s=>s.size|_=>0)
 case atStart=>exact⟨l,[],rfl,H0,qi,by show qC l=_;simp_all,φ⟩
 case round=>
  obtain⟨l',q4,rfl,qe,HB,HE,qm⟩:=hrel;have hn:=HN.u;have hcut:=Ab (iU l' wr ζ (HM.u.kept HB.u));have hsz:=HB.u.size;rcases SW l' with⟨h1,h2⟩|⟨h1,r,h2⟩
  .rw[mG h1]at hcut;have HV:=Ab (show qC l=some (q4++l') by rw[HE.u,jR h2];rfl);clear h1 h2;go_wp2_with fail;refine hcut.u.mono ?_;rintro e w2⟨rfl,q,rfl⟩;go_wp2_with fail;refine(KZ l' (Dx qe.u (FS (Â _ _) q)) ζ κ).mono ?_;rintro e w3⟨rfl,q0,q6⟩;have hb3:=(FS HB.u q).trans q6.low;go_wp2_with fail;refine(Tryz.Builder_String_any w.1.size w.1.size _ w3 q0 (by have:=hb3.size;omega)).mono ?_;rintro e w4⟨rfl,hb4⟩;go_wp2;go_ret2;exact⟨by rw[HV.u];rfl,hb3.trans hb4⟩
  .rw[iT h1 h2]at hcut;have hal:=mR l';have qd:=JI (126::r) (Tx l');rw[<-h2,dV]at qd;have qq:(sH l').length+(r.length+1)=l'.length:=by
    grind
   have qf:=Ab qd;have H2:=Ab h2;generalize sH l'=p at*;clear qd h1 h2;go_wp2_with fail;refine hcut.u.mono ?_;rintro e w2⟨rfl,q,rfl⟩;go_wp2_with fail;refine(KZ p (Dx qe.u (FS (Â _ _) q)) ζ κ).mono ?_;rintro e w3⟨rfl,q0,q6⟩;have q7:=Ab ((FS HB.u q).trans q6.low);have q9:=Ab q0;have hx:(⟨l'.toArray⟩:ByteArray).extract p.length l'.length=⟨(126::r).toArray⟩:=by
    rw[Qa,H2.u];simp
   have qn:(⟨l'.toArray⟩:ByteArray).size=l'.length:=AD _;have qr:(p.length:Int)<=((⟨l'.toArray⟩:ByteArray).size:Int):=ζ;clear q0 q6;go_wp2_with fail;refine(Rf (126::r) w3 (HT.u.kept q7.u)).mono ?_;rintro e w4⟨rfl,hb4⟩;have q8:=Ab (q7.u.trans (hb4.mono q7.u.size));have qb:=Ab (Dx q9.u hb4);clear hb4;cases hpe:tZ (126::r)with
   |none=>
    have HV:=Ab (show qC l=none by
     have h9:=qf.u;rw[hpe]at h9;rw[HE.u,h9];rfl)
    clear hpe;unfold MP;go_wp2;go_ret2;exact⟨by rw[HV.u];rfl,q8.u⟩
   |some c=>
    have HV:=Ab (show qC l=(qC ((126::r).drop 2)).map (q4++p++[c] ++ ·) by
     have h9:=qf.u;rw[hpe]at h9;rw[HE.u,h9];cases qC ((126::r).drop 2)<;>simp)
    have qt:1<=r.length:=by
     cases r with
     |nil=>cases hpe
     |cons _ _=>simp
    have qu:(⟨(126::r).toArray⟩:ByteArray).extract 2 (126::r).length=⟨((126::r).drop 2).toArray⟩:=Qa _ _;have hs2:(⟨(126::r).toArray⟩:ByteArray).size=r.length+1:=θ;clear hpe hx;unfold MP;go_wp2_with fail;refine(BF c _ rfl qb.u ε q8.u.size).mono ?_;rintro e w5⟨rfl,q5,qh⟩;have qj:=Ab q5;have qo:=Ab (q8.u.trans qh.low);have qk:(2:Int)<=((⟨(126::r).toArray⟩:ByteArray).size:Int):=ζ;clear q5 qh;go_wp2_with fail;grind [qC,List.length_append,List.length_cons,AD,List.length_drop,MP,sH,B1]
theorem NN{f:Nat}{d:pL}(h:Eh d=false):Ee (f+1) d=d:=by
 cases d<;>first|rfl|cases h
def uB(f:Nat)(es:List (Lit×pL)):List (Lit×pL):=(es.filter λq=>!tJ q.2).map λq=>(q.1,Ee f q.2)
section
attribute [local go_sem] Ņ
def Jn(c:Nat->AI)(i:Nat):AI:=.agg #[c (i*5),c (i*5+1),c (i*5+2),c (i*5+3),c (i*5+4)]
theorem QG{l Bs g N:Nat}{ao:Option Addr}{c:Nat->AI}{J:Nat->AS->Prop}(hN:N<=CR)(q4:0<N->ao=some ⟨g,0,none⟩)(hJ:∀k W,J k W->W.cell? ⟨Bs,0,none⟩=some (.slice ao N cap)/\∀j,j<N*5->W.cell? ⟨g,j,none⟩=some (c j))(hY:∀k W,k<N->J k W->YieldAt C2 0 A1 l #[.int .i64 ((N-1-k:Nat):Int),Jn c (N-1-k)] W λe W'=>e=.returned (.bool true)/\J (k+1) W')(h0:J 0 W):
  CallsIn C2 0 A1 204 (#[.func (.yield l) #[] #[]] ++ #[.pointer (some ⟨Bs,0,none⟩)]) W λe W'=>(∃v,e=.returned v)/\J N W':=by
 have HJ:=Ab hJ;have HY:=Ab hY;have q5:=Ab q4;have q8:=(hJ 0 W h0).1;have H0:=Ab h0;unfold CR at hN;have w1:IntKind.i64.wrap ((N:Int)-1)=(N:Int)-1:=by rw[Č];omega
 clear hJ hY h0 q4;refine callsIn_of_wp func204 rfl trivial ?_ rfl;simp only[ntmps204,Ň,É,á,B3,CD,A3,A4,B2,BY,Ù,Ü]
 gi_wp2
 gi_loopw [3] (λi wr=>∃r:Nat,r<=N/\i=.int .i64 ((r:Int)-1)/\J (N-r) wr) (λi _=>((intOf i)+1).toNat)
 case atStart=>exact⟨N,Á _,rfl,by rw[ő];exact H0.u⟩
 case round=>
  obtain⟨r,hr,rfl,hj⟩:=hrel;cases r with
  |zero=>
   have q6:=Ab hj;clear hj
   gi_wp2
   go_end0;exact⟨⟨_,rfl⟩,q6.u⟩
  |succ i=>
   obtain⟨hb,hc⟩:=HJ.u _ _ hj;obtain rfl:=q5.u ζ;have e1:(((i+1:Nat):Int)-1)=(i:Int):=ζ;have hk:N-(i+1)<N:=ζ;have e2:N-1-(N-(i+1))=i:=ζ;have e3:N-(i+1)+1=N-i:=ζ;have c0:=hc (i*5) ζ;have c1:=hc (i*5+1) ζ;have c2:=hc (i*5+2) ζ;have c3:=hc (i*5+3) ζ;have c4:=hc (i*5+4) ζ;obtain⟨fn,tmps,assign,body,hy,hR⟩:=HY.u _ _ hk hj;rw[e2,Jn]at hy;rw[e3]at hR;have HR:=Ab hR;have hlt:(i:Int)<(N:Int):=ζ;have q9:(0:Int)<=(i:Int):=ζ;have w2:IntKind.i64.wrap ((i:Int)-1)=(i:Int)-1:=by rw[Č];omega
   rw[e1];clear hj hc hR e1 e2 e3
   gi_wp2
   refine⟨rfl,HR.u.mono ?_⟩;rintro e W3⟨rfl,q0⟩;have q7:=Ab q0;clear q0
   gi_wp2
   go_roundw
   case rel=>exact⟨i,ζ,rfl,q7.u⟩
   case measure=>simp[intOf]
theorem Oy{a:Option Addr}{n:Nat}{w:AS}:C1 A1 158 #[.slice a n cap] w λe w'=>e=.returned (.func (.func 204) #[] #[.pointer (some ⟨w.1.size,0,none⟩)])/\w'=w.alloc (.cells #[.slice a n cap] 112):=by
 go_enter func158,ntmps158;go_wp2;go_ret;simp_all
end
section
theorem De(w:AS)(a:Addr)(m:Mode)(f:Fn)(b c:Array AI):(store a (.func f b c) m).run A1 w=stored A1 w a (.func f b c) m:=run_store A1 w a _ m rfl
attribute [local go_sem] Ņ De
theorem LZ{w:AS}{B e n:Nat}{v:AI}{xs:List AI}(h:w.ownsRow B e 5 v n xs):xs.length=n*5/\n<=CR/\∃ao cap g,v=.slice ao n cap/\(0<n->ao=some ⟨g,0,none⟩/\v.ownBlock=some g/\g<w.1.size/\∀k (hk:k<xs.length),CeB w g k=some xs[k]):=by
 obtain⟨q0,h⟩:=h;rcases h with⟨h1,h0⟩|⟨g,cap,cur,h1,_,h3,h4,h5,h6,h7⟩
 .simp_all
 .refine⟨q0,ζ,some ⟨g,0,none⟩,cap,g,h1,λ_=>⟨rfl,by rw[h1];rfl,ε,λk hk=>?_⟩⟩;have q4:k<cur.size:=ζ;have e:CeB w g k=cur[k]?:=by simp[A5,h3]
  grind
theorem Jrn.at{w:AS}{G:Nat->Prop}:∀{xs:List AI}{cs:List Clo}{js:List pW},Jrn w G xs cs js->cs.length=js.length/\∀i (h:i<js.length) (h2:i<cs.length),∃kv pv fv vv,xs[i*5]?=some (GX cs[i])/\xs[i*5+1]?=some kv/\xs[i*5+2]?=some pv/\xs[i*5+3]?=some fv/\xs[i*5+4]?=some vv/\Ic w G kv pv fv vv js[i]
 |[],[],[],_=>⟨rfl,λi h=>by cases h⟩
 |cv::kv::pv::fv::vv::r,c::s,o::t,⟨e,a,b⟩=>by
  obtain⟨h1,h2⟩:=Jrn.at b;refine⟨by simp[h1],λi h h'=>?_⟩;cases i with
  |zero=>grind
  |succ i=>
   obtain⟨q7,q8,q6,q9,q0,q1,q2,q3,q4,q5⟩:=h2 i ε ε;grind
structure Ej(L:Nat)(w wB:AS)(D Bs g N B:Nat)(rv:AI)(Tb:pN)(Mb M:Nat->Prop)(wb:AS)(cs:List Clo)(k:Nat)(W:AS):Prop where
 box:W.1[Bs]?=wB.1[Bs]?
 row:0<N->W.1[g]?=w.1[g]?
 doc:W.1[D]?=w.1[D]?
 os:W.os=w.os
 tape:W.tape=w.tape
 output:W.output=w.output
 size:B<=W.1.size
 back:∃Tk Mk wk,Und L w.1.size rv Tb Mb wb (cs.reverse.drop k) Tk Mk wk/\(∀j,Mk j->M j)/\BW L rv Tk Mk (λj=>j=D\/j=Bs\/(0<N/\j=g)\/j=B\/j=B+1) wk W
structure OY(L:Nat)(w wB:AS)(D Bs g N B:Nat)(rv:AI)(Tb:pN)(Mb M:Nat->Prop)(wb:AS)(cs:List Clo)(E:Array AI)(k X:Nat)(W:AS):Prop where
 inv:Ej L w wB D Bs g N B rv Tb Mb M wb cs k W
 ne:X≠B/\X≠B+1
 blk:W.1[X]?=some (.cells E 230 (0,0))
section
variable{L:Nat}{w wB:AS}{D Bs g N B:Nat}{rv:AI}{Tb:pN}{Mb M:Nat->Prop}{wb:AS}{cs:List Clo}
theorem Ej.apart(hM:∀j,M j->j<w.1.size)(hB:B=w.1.size+1)(q0:Bs=w.1.size)(hD:D<w.1.size)(hg:0<N->g<w.1.size)(k:Nat):FW B (Ej L w wB D Bs g N B rv Tb Mb M wb cs k):=by
 intro W W' h e1 e2 e3 e4 e5;have hs:=h.size;obtain⟨Tk,Mk,wk,h1,h2,h3⟩:=h.back;refine⟨(e5 Bs ζ ζ ζ).trans h.box,λhN=>(e5 g ζ ζ ζ).trans (h.row hN),(e5 D ζ ζ ζ).trans h.doc,e1.trans h.os,e2.trans h.tape,e3.trans h.output,Ã hs e4,Tk,Mk,wk,h1,h2,?_⟩;obtain⟨T',r1,r2,r3,r4⟩:=h3.tree;refine⟨⟨T',r1,r2.move λj hj=>e5 j (r2.lt j hj) ε ε,r3,r4⟩,λj hj=>(e5 j (h3.low j hj) ε ε).trans (h3.held j hj),ε⟩
theorem OY.apart{E:Array AI}(hM:∀j,M j->j<w.1.size)(hB:B=w.1.size+1)(q0:Bs=w.1.size)(hD:D<w.1.size)(hg:0<N->g<w.1.size)(k X:Nat):FW B (OY L w wB D Bs g N B rv Tb Mb M wb cs E k X):=by
 intro W W' h e1 e2 e3 e4 e5;exact⟨Ej.apart hM hB q0 hD hg k W W' h.inv e1 e2 e3 e4 e5,h.ne,(e5 X (È.1 h.blk).1 h.ne.1 h.ne.2).trans h.blk⟩
theorem Ej.turn{k:Nat}{c:Clo}(hM:∀j,M j->j<w.1.size)(q5:¬M D)(q6:0<N ->¬M g)(hB:B=w.1.size+1)(q4:Bs=w.1.size)(hD:D<w.1.size)(hg:0<N->g<w.1.size)(hl:B+1<W.1.size)(h:Ej L w wB D Bs g N B rv Tb Mb M wb cs k W)(hc:cs.reverse[k]?=some c):
  Ent c.1/\C1 A1 c.1 c.2 W λe W'=>e=.returned (.tuple #[])/\Two B W W'/\Ej L w wB D Bs g N B rv Tb Mb M wb cs (k+1) W':=by
 obtain⟨Tk,Mk,wk,h1,h2,h3⟩:=h.back;obtain⟨hk,q0⟩:=ß.1 hc;rw[Û hk,q0]at h1;obtain⟨T0,M0,wk0,u1,u2,u3,u4,u5⟩:=h1;refine⟨u5,(u2 _ W (λj hj=>?_) h3).mono ?_⟩
 .grind
 .rintro e W' ⟨rfl,t1,k1,k2,k3,k4,k5⟩;refine⟨rfl,⟨k5 _ φ,k5 _ φ⟩,(k5 _ φ).trans h.box,λhN=>(k5 _ ζ).trans (h.row hN),(k5 _ φ).trans h.doc,k1.trans h.os,k2.trans h.tape,k3.trans h.output,Ã h.size k4,T0,M0,wk0,u1,ε,t1⟩
end
theorem Pb{L:Nat}{w:AS}{D:Nat}{rv jn iv:AI}{ch:Bool}{Tb T:pN}{Mb M:Nat->Prop}{wb:AS}{js:List pW}(h:B7 L w D rv jn iv ch Tb Mb wb T M js)(qt:∀k,Mb k->k≠D/\k<w.1.size):
  C1 A1 118 #[PtB D] w λe w'=>e=.returned (.tuple #[])/\DB w' D rv (.slice none 0 0) ch iv/\BW L rv Tb Mb (λk=>k=D) wb w'/\w'.os=w.os/\w'.tape=w.tape/\w'.output=w.output/\w.1.size<=w'.1.size:=by
 obtain⟨xs,cs,qj,qh,z0,qi⟩:=h.ex;obtain⟨z1,hl,ao,cap,g,qz,hg⟩:=LZ qh;obtain⟨hcl,q5⟩:=z0.at
 obtain⟨N,hN⟩:∃N,N=js.length:=⟨_,rfl⟩
 rw[<-hN]at z1 hg hcl qz hl;subst qz;have qk:=qj.lt;have hM:∀j,M j->j<w.1.size:=λj hj=>(h.low j hj).1;obtain⟨c,hc⟩:∃c:Nat->AI,c=λj=>xs[j]?.getD .nilFunc:=⟨_,rfl⟩
 obtain⟨wB,qn⟩:∃wB,wB=w.alloc (.cells #[.slice ao N cap] 112):=⟨_,rfl⟩
 have qu:wB.1[w.1.size]?=some (.cells #[.slice ao N cap] 112 (0,0)):=by rw[qn];exact Ê w _
 have ze:wB.1.size=w.1.size+1:=κ;have q6:Bl w wB:=by rw[qn];exact(Â _ _).alloc (Á _) _
 obtain⟨B,hB⟩:∃B,B=w.1.size+1:=⟨_,rfl⟩
 have qm:0<N->g<w.1.size:=λhp=>(hg hp).2.2.1;have qy:0<N ->¬M g:=λhp=>(h.jM g (hg hp).2.1).1;have h0:Ej L w wB D w.1.size g N B rv Tb Mb M wb cs 0 wB:=by
  refine⟨rfl,λhp=>q6.block g (qm hp),q6.block D qk,q6.os,q6.tape,q6.output,ζ,T,M,w,qi,λ_ hj=>hj,⟨T,rfl,h.tr.bel q6,h.nd,λk hk=>⟨λhm=>(h.low k hm).2 hk,λhn=>?_⟩⟩,λk hk=>q6.block k (hM k hk),ε⟩;have zj:=h.tr.lt k hk;rcases hn with rfl|rfl|⟨hp,rfl⟩|rfl|rfl
  .exact h.dD.1 hk
  .omega
  .exact (h.jM _ (hg hp).2.1).2 hk
  .omega
  .omega
 have qg:=Ab (λ(k:Nat) (cc:Clo) (W:AS) (zh:B+1<W.1.size) (hI:Ej L w wB D w.1.size g N B rv Tb Mb M wb cs k W) (zf:cs.reverse[k]?=some cc)=>Ej.turn hM h.dD.2 qy hB rfl qk qm zh hI zf);have HI:=Ab (λk=>Ej.apart (L:=L) (w:=w) (wB:=wB) (D:=D) (Bs:=w.1.size) (g:=g) (N:=N) (B:=B) (rv:=rv) (Tb:=Tb) (Mb:=Mb) (M:=M) (wb:=wb) (cs:=cs) hM hB rfl qk qm k);have HA:=Ab (λ(E:Array AI) (k X:Nat)=>OY.apart (L:=L) (w:=w) (wB:=wB) (D:=D) (Bs:=w.1.size) (g:=g) (N:=N) (B:=B) (rv:=rv) (Tb:=Tb) (Mb:=Mb) (M:=M) (wb:=wb) (cs:=cs) (E:=E) hM hB rfl qk qm k X);have qf:=Ab (λ(k:Nat) (hk:k<N)=>(show∃(fn:Nat) (caps:Array AI) (kk:Int) (pa:Option Addr) (pl pc:Nat) (x:Option Addr),cs.reverse[k]?=some (fn,caps)/\c ((N-1-k)*5)=.func (.func fn) #[] caps/\c ((N-1-k)*5+1)=InB kk/\c ((N-1-k)*5+2)=.slice pa pl pc/\c ((N-1-k)*5+3)=.slice none 0 0/\c ((N-1-k)*5+4)=.pointer x from by
  have h1:N-1-k<cs.length:=ζ;obtain⟨kv,pv,fv,vv,q0,q1,q2,q3,q4,o1,_,o2,o3,o4⟩:=q5 (N-1-k) ζ h1;obtain⟨pa,pl,pc,rfl⟩:∃pa pl pc,pv=.slice pa pl pc:=by
   rcases o2 with⟨_,a,c,e,_⟩|⟨g,o,cap,e,_⟩
   .grind
   grind
  obtain⟨x,rfl⟩:∃x,vv=.pointer x:=by
   rcases o4 with⟨_,e⟩|⟨_,hr⟩
   .grind
   .obtain⟨b,e,_⟩:=hr;grind
  subst o1;subst o3;refine⟨cs[N-1-k].1,cs[N-1-k].2,(((js[N-1-k]'ζ).1:Nat):Int),pa,pl,pc,x,?_,?_,?_,?_,?_,?_⟩
  .grind
  .rw[hc];simp only[q0];rfl
  .grind
  .grind
  .grind
  grind))
 have qe:=Ab (λ(hp:0<N)=>(show∀j,j<N*5->CeB w g j=some (c j)from λj hj=>by
  rw[(hg hp).2.2.2 j ζ,hc];simp[Ô (show j<xs.length from ζ)]))
 have z2:=Ab (λ(hp:0<N)=>(hg hp).1);have H0:=Ab h0;have qo:=Ab (λ(W:AS) (hI:Ej L w wB D w.1.size g N B rv Tb Mb M wb cs N W)=>(show BW L rv Tb Mb (λj=>j=D\/j=w.1.size\/(0<N/\j=g)\/j=B\/j=B+1) wb W from by
  obtain⟨Tk,Mk,wk,u1,_,u3⟩:=hI.back;rw[í ω]at u1;exact u1 _ W u3))
 have z6:=Ab qt;have z5:=Ab qj;have c1:=qj.c1;have z3:=Ab qu;have qb:=Ab ze;have zc:N<=CR:=hl;clear h qh z0 qi z1 hg hcl q5 hM qy h0 qj qu q6 qt hl hN hc;have q8:=Ab hB;have z7:=Ab qn;clear hB qn;refine(ķ (n:=0)).1 (B4 func118 rfl trivial ?_ rfl);simp only[ntmps118,Ň,É,á,B3,CD,A3,A4,B2,BY,Ù,Ü]
 gi_wp2_with (refine⟨trivial,rfl,?_⟩;gi_at_call 158;refine(ķ.2 Oy).mono ?_;rintro e w' ⟨rfl,rfl⟩)
 rw[<-z7.u];refine KP (gf:=204) (lb:=#[.pointer (some ⟨w.1.size,0,none⟩)]) rfl (Kf func204 δ rfl) N (λk=>#[InB ((N-1-k:Nat):Int),Jn c (N-1-k)]) (λ_=>rfl) (Ej L w wB D w.1.size g N B rv Tb Mb M wb cs)
  (λk a' W=>∃X,OY L w wB D w.1.size g N B rv Tb Mb M wb cs #[c ((N-1-k)*5),c ((N-1-k)*5+1),c ((N-1-k)*5+2),c ((N-1-k)*5+3),c ((N-1-k)*5+4)] k X W/\a'={tmps:=#[PtB D,AT,AT,PtB X,PtB D,PtB D,.pointer (some ⟨D,1,none⟩),.slice ao N cap,.func (.func 204) #[] #[.pointer (some ⟨w.1.size,0,none⟩)],InB ((N-1-k:Nat):Int),Jn c (N-1-k),AT,AT,AT,AT,AT,AT],defers:=[] })
  ?hI ?hA H0.u ?hiter ?hassign ?hbody ?hdone
 case hI=>
  rw[qb.u,<-q8.u];exact HI.u
 case hA=>
  rw[qb.u,<-q8.u];rintro k a' W W' ⟨X,hX,e⟩e1 e2 e3 e4 e5;exact⟨X,HA.u _ k X W W' hX e1 e2 e3 e4 e5,e⟩
 case hiter=>
  intro l J W za hY z9;refine QG (cap:=cap) zc z2.u (λk W hj=>?_) hY z9;have hi:=za k W hj;refine⟨?_,λj zg=>?_⟩
  .have:=hi.box.trans z3.u;simp[A5,this]
  .have hp:0<N:=ζ;rw[Ç (w:=w) (hi.row hp)];exact qe.u hp j zg
 case hassign=>
  intro l k W hk hi hsz;rw[qb.u,<-q8.u]at hsz |-;have q9:=Ab hi;obtain⟨fn,caps,kk,pa,pl,pc,x,_,e0,e1,e2,e3,e4⟩:=qf.u k hk;clear hi;unfold Jn;rw[e0,e1,e2,e3,e4];clear e0 e1 e2 e3 e4
  gi_wp2
  have hb:=(Â W.1.size W).alloc (Á _) (.cells #[.func (.func fn) #[] caps,InB kk,.slice pa pl pc,.slice none 0 0,.pointer x] 230);exact⟨⟨hb.block B ζ,hb.block (B+1) ζ⟩,⟨HI.u k W _ q9.u hb.os hb.tape hb.output hb.size λj hj _ _=>hb.block j hj,⟨ζ,ζ⟩,Ê W _⟩⟩
 case hbody=>
  rintro l k a' W hk⟨X,hX,rfl⟩hsz -;rw[qb.u,<-q8.u]at hsz |-;obtain⟨fn,caps,kk,pa,pl,pc,x,qv,qw,e1,e2,e3,e4⟩:=qf.u k hk;obtain⟨q5,q7⟩:=qg.u k (fn,caps) W hsz hX.inv qv;have x0:CeB W X 0=some (.func (.func fn) #[] caps):=by
   have:=hX.blk;rw[qw]at this;simp[A5,this]
  have qq:=Ab q5;have qd:=Ab q7;clear q5 q7 qv qw hX e1 e2 e3 e4
  gi_wp2
  rw[qq.u,Oper.uponIn_enter];refine⟨trivial,λhh=>(by cases hh),((ķ (n:=0)).2 qd.u).mono ?_⟩;rintro e W' ⟨rfl,ht,zi⟩
  gi_wp2
 case hdone=>
  intro W hI hK;rw[qb.u,<-q8.u]at hK |-;have hW:=qo.u W hI;have qr:=q8.u;have hd:=z5.u.kept hI.doc;have d1:=hd.c1;have dz:W.frozen? ⟨D,1,none⟩=false:=fk hd;have HW:=Ab hW;have z4:=Ab hd;have q9:=Ab hI;clear hW hd hI qr
  gi_wp2
  have qr:=q8.u;have zb:(W.setCell ⟨D,1,none⟩ (.slice none 0 0)).1[B]?=some (.deferred (some [])):=(Æ _ _ _ _ ε).trans hK;refine⟨φ,.inl ⟨_,_,rfl,CH zb,?_⟩⟩;refine⟨_,þ rfl _ _ _,rfl,?_⟩;have z8:DB (W.setCell ⟨D,1,none⟩ (.slice none 0 0)) D rv (.slice none 0 0) ch iv:=z4.u.set1 _;have hne:∀j,j≠D->j≠B->((W.setCell ⟨D,1,none⟩ (.slice none 0 0)).putObj B (.deferred none)).1[j]?=W.1[j]?:=λj h1 h2=>(ò ζ).trans (Æ _ _ _ _ h1);obtain⟨T',r1,r2,r3,r4⟩:=HW.u.tree;refine⟨(ò ζ).trans z8,⟨⟨T',r1,r2.move ε,r3,ε⟩,λj hj=>?_,λj hj=>?_⟩,q9.u.os,q9.u.tape,q9.u.output,?_⟩
  .obtain⟨m1,m2⟩:=z6.u j hj;exact(hne j m1 ζ).trans (HW.u.held j hj)
  .have:=HW.u.low j hj;simp_all
  .have:=q9.u.size;simp[C0,A2];omega
end
section
attribute [local go_sem] Ņ De
theorem Gu{l:Nat}{w:AS}{o:Oper}{a:Act}{K:Act->AS->Prop}{Q:Exit->Act->AS->Prop}(s x:Operand)(t:TypeId)(ho:o.op=.call { callee:=.builtin .append,args:=#[s,x],argTypes:=#[t,t] })(base:Nat)(e:TypeId)(i:TypeInfo)(z:AI)(size bytes:Nat)(ht:Tryz.prog.underlying t=some (.slice e))(hi:Tryz.prog.info? e=some i)(hz:i.zero=some z)(q7:i.size=size)(qb:i.bytes=bytes)(qd:z.cells.size=size)(hsz:0<size)(v:AI)(n:Nat)(xs:List AI)(hs:a.eval s=v)(q8:w.ownsRow base e size v n xs)(ad:Addr)(m c:Nat)(q0:List AI)(hx:a.eval x=.slice (some ad) m c)(hl:q0.length=m*size)(q6:∀j u,q0[j]?=some u->w.cell? (ad.add j)=some u)(h1:∀u∈q0,u.oneCell'=true)(hm:0<m)(q9:n+m<=CR)(q4:(n+m)*bytes<=140737488355328)(q5:base<=w.1.size)(H:Nat)(hH:w.1.size=H)(h:∀g cap w',w'.ownsRow base e size (SlB g (n+m) cap) (n+m) (xs++q0)->w.grownBy w' v.ownBlock->(v.ownBlock=some g\/g=H)->g<w'.1.size->K (a.put o.dst (SlB g (n+m) cap)) w'):
  Oper.wpIn (Fence.wide.inRound l) 0 A1 o a w K Q:=by
 obtain⟨g,cap,w',hr,h2,h3,h4,h5⟩:=run_append_lies (P:=A1) (w:=w) t o.type base e i z size bytes ht hi hz q7 qb qd hsz v n xs q8 ad m c q0 hl q6 h1 hm q9 q4 q5 H hH;refine⟨λf _=>trivial,?_⟩;rw[show(Fence.wide.inRound l).round=some l from rfl,Ņ _ _ _ ε];unfold execOp;simp only[ho,resolve,invoke,builtin,Sem.run_bind,Sem.run_pure,Result.andThen_ok,List.map_toArray,Ð,ÿ,hs,hx,hr];exact h g cap w' h2 h3 h4 h5
theorem fL:(Tryz.prog.info? 178).map (λi=>(i.zero.map (λz=>z.cells.size),i.size,i.bytes))=some (some 4,4,64):=δ
theorem PD:∃i z,Tryz.prog.info? 178=some i/\i.zero=some z/\z.cells.size=4/\i.size=4/\i.bytes=64:=by
 obtain⟨i,hi,h⟩:=à.1 fL;simp_all
def pk(n k:Nat)(v:AI):AI:=if k<=n then v else AT
def wz(z:Nat)(w1 w2:AS):AS:=if 3<=z then w2 else w1
def Hx(c:Nat->AI)(N:Nat):Nat->List AI
 |0=>[]
 |k+1=>Hx c N k++[c ((N-1-k)*5+1),c ((N-1-k)*5+2),c ((N-1-k)*5+3),c ((N-1-k)*5+4)]
theorem EN.snoc{w:AS}{G:Nat->Prop}{kv pv fv vv:AI}{o:pW}(ho:Ic w G kv pv fv vv o):∀{xs:List AI}{js:List pW},EN w G xs js->EN w G (xs++[kv,pv,fv,vv]) (js++[o])
 |[],[],_=>⟨ho,trivial⟩
 |_::_::_::_::_,_::_,⟨a,b⟩=>⟨a,EN.snoc ho b⟩
structure EA(w wB:AS)(D g N B:Nat)(rv jn:AI)(ch:Bool)(c:Nat->AI)(k:Nat)(W:AS):Prop where
 bx:W.1[w.1.size]?=wB.1[w.1.size]?
 box:W.1[w.1.size+1]?=wB.1[w.1.size+1]?
 row:0<N->W.1[g]?=w.1[g]?
 os:W.os=w.os
 tape:W.tape=w.tape
 output:W.output=w.output
 size:B<=W.1.size
 old:∀j,j<w.1.size->j≠D->W.1[j]?=w.1[j]?
 doc:∃iv,DB W D rv jn ch iv/\W.ownsRow 0 178 4 iv k (Hx c N k)/\∀q,iv.ownBlock=some q->w.1.size+2<=q/\q≠B/\q≠B+1
structure OZ(w wB:AS)(D g N B:Nat)(rv jn:AI)(ch:Bool)(c:Nat->AI)(E:Array AI)(k X:Nat)(W:AS):Prop where
 inv:EA w wB D g N B rv jn ch c k W
 ne:w.1.size+2<=X/\X≠B/\X≠B+1
 blk:W.1[X]?=some (.cells E 230 (0,0))
 far:∀q iv,DB W D rv jn ch iv->iv.ownBlock=some q->q≠X
section
variable{w wB:AS}{D g N B:Nat}{rv jn:AI}{ch:Bool}{c:Nat->AI}
theorem EA.apart(hB:B=w.1.size+2)(hD:D<w.1.size)(hg:0<N->g<w.1.size)(k:Nat):FW B (EA w wB D g N B rv jn ch c k):=by
 intro W W' h e1 e2 e3 e4 e5;have hs:=h.size;obtain⟨iv,h1,h2,h3⟩:=h.doc;refine⟨(e5 _ ζ ζ ζ).trans h.bx,(e5 _ ζ ζ ζ).trans h.box,λhN=>(e5 g ζ ζ ζ).trans (h.row hN),e1.trans h.os,e2.trans h.tape,e3.trans h.output,Ã hs e4,λj hj hne=>(e5 j ζ ζ ζ).trans (h.old j hj hne),iv,h1.kept ε,Bz h2 λq hq=>e5 q (Bt h2 q hq).1 (h3 q hq).2.1 (h3 q hq).2.2,h3⟩
theorem OZ.apart{E:Array AI}(hB:B=w.1.size+2)(hD:D<w.1.size)(hg:0<N->g<w.1.size)(k X:Nat):FW B (OZ w wB D g N B rv jn ch c E k X):=by
 intro W W' h e1 e2 e3 e4 e5;have hs:=h.inv.size;refine⟨EA.apart hB hD hg k W W' h.inv e1 e2 e3 e4 e5,h.ne,(e5 X (È.1 h.blk).1 h.ne.2.1 h.ne.2.2).trans h.blk,λq iv h1 h2=>h.far q iv (h1.kept ε) h2⟩
theorem DB.iv{iv q0:AI}(h:DB W D rv jn ch iv)(h':DB W D rv jn ch q0):iv=q0:=by
 have e:=(show W.1[D]?=_ from h).symm.trans (show W.1[D]?=_ from h');injection e with e;injection e with e;simp at e;exact e
end
end
section
attribute [local go_sem] Ņ De
section
variable{w wB:AS}{D g N B:Nat}{rv jn iv:AI}{ch:Bool}{c:Nat->AI}
theorem DB.set3(h:DB W D rv jn ch iv)(v:AI):DB (W.setCell ⟨D,3,none⟩ v) D rv jn ch v:=by
 simp only[DB,A2,ğ];rw[if_pos trivial,show W.1[D]?=_ from h];rfl
theorem EA.turn{k q:Nat}{W2 W3:AS}(hB:B=w.1.size+2)(hD:D<w.1.size)(hg:0<N->g<w.1.size/\g≠D)(hl:B+1<W.1.size)(h:EA w wB D g N B rv jn ch c k W)(q6:DB W D rv jn ch iv)(h2:Bl W W2)(ho:W3.ownsRow 0 178 4 (SlB q (k+1) cap) (k+1) (Hx c N k++[c ((N-1-k)*5+1),c ((N-1-k)*5+2),c ((N-1-k)*5+3),c ((N-1-k)*5+4)]))(q4:W2.grownBy W3 iv.ownBlock)(q7:iv.ownBlock=some q\/W.1.size<=q):
  Two B W (W3.setCell ⟨D,3,none⟩ (SlB q (k+1) cap))/\EA w wB D g N B rv jn ch c (k+1) (W3.setCell ⟨D,3,none⟩ (SlB q (k+1) cap)):=by
 have hs:=h.size;have hs2:=h2.size;have q8:=q4.size;obtain⟨q9,d1,d2,d3⟩:=h.doc;obtain rfl:=q6.iv d1;have keep:∀j,j<W.1.size->iv.ownBlock≠some j->W3.1[j]?=W.1[j]?:=λj hj hne=>(q4.block j ζ (λe=>hne e.symm)).trans (h2.block j hj);have far:∀j,(j<w.1.size+2\/j=B\/j=B+1)->iv.ownBlock≠some j:=ε;have q5:∀j,j≠D->(W3.setCell ⟨D,3,none⟩ (SlB q (k+1) cap)).1[j]?=W3.1[j]?:=λj hj=>Æ _ _ _ _ hj;have hq:w.1.size+2<=q/\q≠B/\q≠B+1:=by
  grind
 have q0:∀j,j<W.1.size->(j<w.1.size+2\/j=B\/j=B+1)->j≠D->(W3.setCell ⟨D,3,none⟩ (SlB q (k+1) cap)).1[j]?=W.1[j]?:=ε;refine⟨⟨ε,ε⟩,(q0 _ ζ ζ ζ).trans h.bx,(q0 _ ζ ζ ζ).trans h.box,λhN=>?_,?_,?_,?_,?_,λj hj hne=>(q0 j ζ ζ hne).trans (h.old j hj hne),SlB q (k+1) cap,?_,?_,?_⟩
 .obtain⟨g1,g2⟩:=hg hN;exact(q0 g ζ ζ g2).trans (h.row hN)
 .exact q4.os.trans (h2.os.trans h.os)
 .exact q4.tape.trans (h2.tape.trans h.tape)
 .exact q4.output.trans (h2.output.trans h.output)
 .grind
 .exact (d1.kept ε).set3 _
 .exact Bz ho λj hj=>q5 j (by simp[B1]at hj;omega)
 grind [B1,A2]
end
end
section
attribute [local go_sem] Ņ De
theorem ZL{L:Nat}{w:AS}{D:Nat}{rv jn iv:AI}{ch:Bool}{Tb T:pN}{Mb M:Nat->Prop}{wb:AS}{js:List pW}(h:B7 L w D rv jn iv ch Tb Mb wb T M js)(hl:js.length<=1000000000):
  C1 A1 119 #[PtB D] w λe w'=>e=.returned (.tuple #[])/\∃y8,DB w' D rv (.slice none 0 0) true y8/\Ly w' (λk=>GA L Tb wb M k\/w.1.size<=k) y8 js.reverse/\Aw (λk=>k=D) w w':=by
 obtain⟨xs,cs,qw,qy,zv,zh⟩:=h.ex;obtain⟨y6,zx,ao,cap,g,zu,hg⟩:=LZ qy;obtain⟨hcl,qk⟩:=zv.at
 obtain⟨N,hN⟩:∃N,N=js.length:=⟨_,rfl⟩
 rw[<-hN]at y6 hg hcl zu hl zx;subst zu;have qe:=qw.lt;have hM:∀j,M j->j<w.1.size:=λj hj=>(h.low j hj).1;obtain⟨c,hc⟩:∃c:Nat->AI,c=λj=>xs[j]?.getD .nilFunc:=⟨_,rfl⟩
 have z6:0<N->g<w.1.size/\g≠D:=λhp=>⟨(hg hp).2.2.1,λe=>h.jD ε⟩
 obtain⟨w1,qn⟩:∃w1,w1=(w.alloc (.cells #[PtB D] 60)).setCell ⟨D,3,none⟩ (.slice none 0 0):=⟨_,rfl⟩
 obtain⟨wB,qg⟩:∃wB,wB=w1.alloc (.cells #[.slice ao N cap] 112):=⟨_,rfl⟩
 have y4:w1.1.size=w.1.size+1:=κ;have zn:wB.1.size=w.1.size+2:=κ;have zf:w1.1[w.1.size]?=some (.cells #[PtB D] 60 (0,0)):=by
  rw[qn];exact(Æ _ _ _ _ ε).trans (Ê w _)
 have zz:wB.1[w.1.size]?=some (.cells #[PtB D] 60 (0,0)):=by rw[qg];exact(Ä w1 _ _ ζ).trans zf
 have zo:wB.1[w.1.size+1]?=some (.cells #[.slice ao N cap] 112 (0,0)):=by rw[qg,<-y4];exact Ê w1 _
 have hold:∀j,j<w.1.size->j≠D->wB.1[j]?=w.1[j]?:=λj hj hne=>by
  rw[qg,Ä w1 _ j ζ,qn];exact(Æ _ _ _ _ hne).trans (Ä w _ j hj)
 have ze:DB w1 D rv (.slice ao N cap) ch (.slice none 0 0):=by
  rw[qn];exact(qw.kept (w':=w.alloc (.cells #[PtB D] 60)) (Ä w _ D qe)).set3 _
 have zq:DB wB D rv (.slice ao N cap) ch (.slice none 0 0):=ze.kept (by rw[qg];exact Ä w1 _ D ζ);obtain⟨B,hB⟩:∃B,B=w.1.size+2:=⟨_,rfl⟩
 have h0:EA w wB D g N B rv (.slice ao N cap) ch c 0 wB:=by
  refine⟨rfl,rfl,ε,by rw[qg,qn];rfl,κ,by rw[qg,qn];rfl,ζ,hold,_,zq,⟨rfl,Å ⟨rfl,rfl⟩⟩,λq hq=>by cases hq⟩
 have qt:=Ab (λ(k:Nat) (hk:k<N)=>(show∃(fn:Nat) (caps:Array AI) (kk:Int) (pa:Option Addr) (pl pc:Nat) (x:Option Addr),c ((N-1-k)*5)=.func (.func fn) #[] caps/\c ((N-1-k)*5+1)=.int .i64 kk/\c ((N-1-k)*5+2)=.slice pa pl pc/\c ((N-1-k)*5+3)=.slice none 0 0/\c ((N-1-k)*5+4)=.pointer x from by
  have h1:N-1-k<cs.length:=ζ;obtain⟨kv,pv,fv,vv,q0,q1,q2,q3,q4,o1,_,o2,o3,o4⟩:=qk (N-1-k) ζ h1;obtain⟨pa,pl,pc,rfl⟩:∃pa pl pc,pv=.slice pa pl pc:=by
   rcases o2 with⟨_,a,c,e,_⟩|⟨g,o,cap,e,_⟩
   .grind
   grind
  obtain⟨x,rfl⟩:∃x,vv=.pointer x:=by
   rcases o4 with⟨_,e⟩|⟨_,hr⟩
   .grind
   .obtain⟨b,e,_⟩:=hr;grind
  subst o1;subst o3;refine⟨cs[N-1-k].1,cs[N-1-k].2,(((js[N-1-k]'ζ).1:Nat):Int),pa,pl,pc,x,?_,?_,?_,?_,?_⟩
  .rw[hc];simp only[q0];rfl
  .grind
  .grind
  .grind
  grind))
 have za:Hid (∀k,k<=N->EN w (GA L Tb wb M) (Hx c N k) (js.reverse.take k)):=by
  intro k;induction k with
  |zero=>intro _;exact trivial
  |succ k ih=>
   intro hk;have h1:N-1-k<cs.length:=ζ;obtain⟨kv,pv,fv,vv,q0,q1,q2,q3,q4,o1⟩:=qk (N-1-k) ζ h1;have e1:js.reverse.take (k+1)=js.reverse.take k++[js[N-1-k]'ζ]:=by
    rw[Í ω,List.getElem_reverse];grind
   rw[e1,Hx,hc];simp only[q1,q2,q3,q4,Ģ];exact EN.snoc o1 (hc▸ih ζ)
 have qr:=Ab (λ(hp:0<N)=>(show∀j,j<N*5->w.cell? ⟨g,j,none⟩=some (c j)from λj hj=>by
  refine((hg hp).2.2.2 j ζ).trans ?_;rw[hc];simp[Ô (show j<xs.length from ζ)]))
 have qv:=Ab (λ(k q q5:Nat) (W W2 W3:AS) (iv:AI) (hl:B+1<W.1.size) (hI:EA w wB D g N B rv (.slice ao N cap) ch c k W)=>EA.turn (iv:=iv) (q:=q) (cap:=q5) (W2:=W2) (W3:=W3) hB qe z6 hl hI);have HI:=Ab (λk=>EA.apart (w:=w) (wB:=wB) (D:=D) (g:=g) (N:=N) (B:=B) (rv:=rv) (jn:=.slice ao N cap) (ch:=ch) (c:=c) hB qe (λhp=>(z6 hp).1) k);have HA:=Ab (λ(E:Array AI) (k X:Nat)=>OZ.apart (w:=w) (wB:=wB) (D:=D) (g:=g) (N:=N) (B:=B) (rv:=rv) (jn:=.slice ao N cap) (ch:=ch) (c:=c) (E:=E) hB qe (λhp=>(z6 hp).1) k X);have y9:=Ab (λ(hp:0<N)=>(hg hp).1);have H0:=Ab h0;have yu:=Ab qw;have z2:=qw.kept (w':=w.alloc (.cells #[PtB D] 60)) (Ä w _ D qe);have z1:(w.alloc (.cells #[PtB D] 60)).cell? ⟨D,1,none⟩=some (.slice ao N cap):=z2.c1;have z3:(w.alloc (.cells #[PtB D] 60)).cell? ⟨D,3,none⟩=some iv:=z2.c3;have y3:(w.alloc (.cells #[PtB D] 60)).frozen? ⟨D,3,none⟩=false:=by simp[World.frozen?,show _=_ from z2]
 have yx:=Ab zf;have yv:=Ab ze;have zk:=Ab zz;have ya:=Ab zo;have qq:=Ab zn;have qh:=Ab hB;have yi:=Ab qg;have yg:=Ab qn;have z8:=Ab qe;have yf:=Ab hN;have yw:=Ab hM;have ye:=Ab h.dD.2;clear h qy zv zh y6 hg hcl qk h0 zf zz zo hold ze zq qw z6 z2 y4 zn hB qg qn qe hN hc hM;refine(ķ (n:=0)).1 (B4 func119 rfl trivial ?_ rfl);simp only[ntmps119,Ň,É,á,B3,CD,A3,A4,B2,BY,Ù,Ü]
 gi_wp2_with (refine⟨trivial,rfl,?_⟩;gi_at_call 158;refine(ķ.2 Oy).mono ?_;rintro e w' ⟨rfl,rfl⟩)
 rw[<-yg.u,<-yi.u];refine KP (gf:=204) (lb:=#[.pointer (some ⟨w.1.size+1,0,none⟩)]) rfl (Kf func204 δ rfl) N (λk=>#[.int .i64 ((N-1-k:Nat):Int),Jn c (N-1-k)]) (λ_=>rfl) (EA w wB D g N B rv (.slice ao N cap) ch c)
  (λk a' W=>∃X,OZ w wB D g N B rv (.slice ao N cap) ch c #[c ((N-1-k)*5),c ((N-1-k)*5+1),c ((N-1-k)*5+2),c ((N-1-k)*5+3),c ((N-1-k)*5+4)] k X W/\a'={tmps:=#[PtB D,.pointer (some ⟨w.1.size,0,none⟩),AT,PtB X,PtB D,PtB D,.pointer (some ⟨D,3,none⟩),PtB D,PtB D,.pointer (some ⟨D,1,none⟩),.slice ao N cap,.func (.func 204) #[] #[.pointer (some ⟨w.1.size+1,0,none⟩)],.int .i64 ((N-1-k:Nat):Int),Jn c (N-1-k),AT,AT,AT,AT,AT,AT,AT,AT,AT,AT,AT,AT,AT,AT,AT,AT,AT],defers:=[] })
  ?hI ?hA H0.u ?hiter ?hassign ?hbody ?hdone
 case hI=>
  rw[qq.u,<-qh.u];exact HI.u
 case hA=>
  rw[qq.u,<-qh.u];rintro k a' W W' ⟨X,hX,e⟩e1 e2 e3 e4 e5;exact⟨X,HA.u _ k X W W' hX e1 e2 e3 e4 e5,e⟩
 case hiter=>
  intro l J W yl hY yk;refine QG (cap:=cap) zx y9.u (λk W hj=>?_) hY yk;have hi:=yl k W hj;refine⟨?_,λj yo=>?_⟩
  .have:=hi.box.trans ya.u;simp[A5,this]
  .have hp:0<N:=ζ;rw[Ç (w:=w) (hi.row hp)];exact qr.u hp j yo
 case hassign=>
  intro l k W hk hi hsz;rw[qq.u,<-qh.u]at hsz |-;have qb:=Ab hi;obtain⟨fn,caps,kk,pa,pl,pc,x,e0,e1,e2,e3,e4⟩:=qt.u k hk;clear hi;unfold Jn;rw[e0,e1,e2,e3,e4];clear e0 e1 e2 e3 e4
  gi_wp2
  have hb:=(Â W.1.size W).alloc (Á _) (.cells #[.func (.func fn) #[] caps,.int .i64 kk,.slice pa pl pc,.slice none 0 0,.pointer x] 230);have yj:=qh.u;have zt:=qb.u;obtain⟨yz,d1,d2,d3⟩:=zt.doc;have z5:=d1.lt;exact⟨⟨hb.block B ζ,hb.block (B+1) ζ⟩,⟨HI.u k W _ zt hb.os hb.tape hb.output hb.size λj hj _ _=>hb.block j hj,ζ,Ê W _,λq yq h1 h2=>by
   have h3:DB W D rv (.slice ao N cap) ch yq:=h1.kept (hb.block D z5).symm;obtain rfl:=h3.iv d1;have:=(Bt d2 q h2).1;omega⟩⟩
 case hbody=>
  rintro l k a' W hk⟨X,hX,rfl⟩hsz -;rw[qq.u,<-qh.u]at hsz |-;obtain⟨fn,caps,kk,pa,pl,pc,px,e0,e1,e2,e3,e4⟩:=qt.u k hk;have qj:=hX.blk;rw[e0,e1,e2,e3,e4]at qj;obtain⟨iv2,q8,q6,q7⟩:=hX.inv.doc;have z5:=q8.lt;obtain⟨i0,z0,zr,hz0,y7,hz2,hz3⟩:=PD;have y5:Hx c N k++[c ((N-1-k)*5+1),c ((N-1-k)*5+2),c ((N-1-k)*5+3),c ((N-1-k)*5+4)]=Hx c N k++[.int .i64 kk,.slice pa pl pc,.slice none 0 0,.pointer px]:=ε;have hT:=λq q5 W2 W3=>qv.u k q q5 W W2 W3 iv2 hsz hX.inv q8;simp only[y5]at hT;have HT:=Ab hT;obtain⟨W2,z4⟩:∃W2,W2=W.drew.alloc (.cells #[.int .i64 kk,.slice pa pl pc,.slice none 0 0,.pointer px] 178):=⟨_,rfl⟩
  have hb2:Bl W W2:=by
   rw[z4];have h1:=(Â W.1.size W).alloc (Á _) (.cells #[.int .i64 kk,.slice pa pl pc,.slice none 0 0,.pointer px] 178);exact⟨h1.os,h1.tape,h1.output,h1.size,h1.block⟩
  have qz:W2.1.size=W.1.size+1:=κ;have zy:W2.1[W.1.size]?=some (.cells #[.int .i64 kk,.slice pa pl pc,.slice none 0 0,.pointer px] 178 (0,0)):=by rw[z4];exact Ê W.drew _
  have qo:W.1[w.1.size]?=some (.cells #[PtB D] 60 (0,0)):=hX.inv.bx.trans zk.u;have zw:w.1.size<W.1.size:=ε;have yp:X<W.1.size:=ε;have z7:∀j,j<W.1.size ->∀z,(wz z W.drew W2).1[j]?=W.1[j]?:=λj hj z=>by
   unfold wz;split
   .exact hb2.block j hj
   .rfl
  have qf:=Bz (w':=W2) q6 λq hq=>hb2.block q (Bt q6 q hq).1;have fP:∀z,(wz z W.drew W2).cell? ⟨w.1.size,0,none⟩=some (PtB D):=λz=>by
   rw[Ç (w:=W) (z7 _ zw z)];simp[A5,qo]
  have fD:∀z,(wz z W.drew W2).cell? ⟨D,3,none⟩=some iv2:=λz=>by
   rw[Ç (w:=W) (z7 _ z5 z)];exact q8.c3
  have fX:∀z,(wz z W.drew W2).cell? ⟨X,1,none⟩=some (.int .i64 kk)/\(wz z W.drew W2).cell? ⟨X,2,none⟩=some (.slice pa pl pc)/\(wz z W.drew W2).cell? ⟨X,3,none⟩=some (.slice none 0 0)/\(wz z W.drew W2).cell? ⟨X,4,none⟩=some (.pointer px):=λz=>by
   refine⟨?_,?_,?_,?_⟩;all_goals (rw[Ç (w:=W) (z7 _ yp z)];simp[A5,qj])
  obtain⟨E0,zm⟩:∃E0,E0=Jn c (N-1-k):=⟨_,rfl⟩
  rw[<-zm];have yh:=Ab z4;have zj:=Ab zy;have zl:=Ab qz;have zi:=Ab hb2;have qd:=Ab qf;have z9:=Ab fP;have yb:=Ab fD;have yc:=Ab fX;have HZ:=Ab (show∀W3:AS,W2.grownBy W3 iv2.ownBlock->W3.cell? ⟨D,3,none⟩=some iv2/\W3.frozen? ⟨D,3,none⟩=false/\W3.cell? ⟨w.1.size,0,none⟩=some (PtB D)from λW3 q9=>by
   have h3:DB W3 D rv (.slice ao N cap) ch iv2:=q8.kept ((q9.block D ζ (λe=>by have:=q7 D e.symm;have:=z8.u;omega)).trans (hb2.block D z5));have h4:W3.1[w.1.size]?=some (.cells #[PtB D] 60 (0,0)):=((q9.block _ ζ ε).trans (hb2.block _ zw)).trans qo;exact⟨h3.c3,fk h3,ck h4⟩)
  obtain⟨fi,yy⟩:∃a b n,iv2=.slice a b n:=by
   rcases q6.2 with⟨e,_⟩|⟨_,_,_,e,_⟩
   .grind
   grind
  clear qj hX e0 e1 e2 e3 e4 q8 q6 q7 hT y5 z4 hb2 qz zy qo z7 qf fP fD fX zm
  gi_wp2
  refine wpIn_region_any δ ?_;refine iM (A:=λx y z=>{tmps:=#[PtB D,.pointer (some ⟨w.1.size,0,none⟩),AT,PtB X,PtB D,PtB D,.pointer (some ⟨D,3,none⟩),PtB D,PtB D,.pointer (some ⟨D,1,none⟩),.slice ao N cap,.func (.func 204) #[] #[.pointer (some ⟨w.1.size+1,0,none⟩)],.int .i64 ((N-1-k:Nat):Int),E0,pk x 1 (PtB D),pk y 1 (PtB D),pk y 2 (PtB D),pk y 3 (.pointer (some ⟨D,3,none⟩)),pk y 4 iv2,pk z 1 (.pointer (some ⟨X,1,none⟩)),pk z 2 (.agg #[.int .i64 kk,.slice pa pl pc,.slice none 0 0,.pointer px]),pk z 3 (.slice (some ⟨W.1.size,0,none⟩) 1 1),AT,AT,AT,AT,AT,AT,AT,AT,AT],defers:=[] }) (W:=λz=>wz z W.drew W2) δ ?h0 ?h1 ?h5 ?hl ?hl0
  case h0=>
   intro y z K hy hz hk;refine ŋ rfl (λK' hK=>?_);have f:=z9.u z;go_simp;exact hK _ _ hk
  case h1=>
   intro x y z K hx hy hz hk;have f:=z9.u z;have f3:=yb.u z;have yr:∀v,pk 1 1 v=v:=λ_=>rfl;have yt:∀v,pk 2 2 v=v:=λ_=>rfl;have j0:∀v,pk 3 3 v=v:=λ_=>rfl
   match y,hy with
   |0,_=>
    refine ŋ rfl (λK' hK=>?_);go_simp;exact hK _ _ hk
   |1,_=>
    refine ŋ rfl (λK' hK=>?_);go_simp;exact hK _ _ hk
   |2,_=>
    refine ŋ rfl (λK' hK=>?_);go_simp;exact hK _ _ hk
   |3,_=>
    refine ŋ rfl (λK' hK=>?_);go_simp;exact hK _ _ hk
  case h5=>
   intro x y z K hx hy hz hk;obtain⟨f1,f2,f3,f4⟩:=yc.u z;have yr:∀v,pk 1 1 v=v:=λ_=>rfl;have yt:∀v,pk 2 2 v=v:=λ_=>rfl
   match z,hz with
   |0,_=>
    refine ŋ rfl (λK' hK=>?_);go_simp;exact hK _ _ hk
   |1,_=>
    refine ŋ rfl (λK' hK=>?_);go_simp;exact hK _ _ hk
   |2,_=>
    have e2:wz 2 W.drew W2=W.drew:=rfl;have e3:wz 3 W.drew W2=W2:=rfl;simp only[e2]at f1 f2 f3 f4 |-;simp only[B3,e3]at hk;rw[yh.u]at hk;refine ŋ rfl (λK' hK=>?_);go_simp;exact hK _ _ hk
  case hl=>
   refine ĥ (rs:=[8]) δ φ (Ę rfl (λK hK=>?_) ĩ);rw[if_pos θ];refine Gu (.tmp 18) (.tmp 21) 113 rfl 0 178 i0 z0 4 64 underlying113 zr hz0 hz2 hz3 y7 η iv2 k (Hx c N k) rfl qd.u ⟨W.1.size,0,none⟩ 1 1 [.int .i64 kk,.slice pa pl pc,.slice none 0 0,.pointer px] rfl rfl (Ö (cs:=#[.int .i64 kk,.slice pa pl pc,.slice none 0 0,.pointer px]) (t:=178) (fr:=(0,0)) zj.u) (by simp[CL]) η ζ ζ (Ď _) (W.1.size+1) zl.u ?_;intro q q5 W3 ho q9 zc hlt;refine hK _ _ ?_;obtain⟨y1,y2,y3⟩:=HZ.u W3 q9;have qi:=Ab (HT.u q q5 W2 W3 zi.u ho q9 ε);clear hK ho q9 zc hlt;refine ĥ (rs:=[9]) δ φ (Ę rfl (λK hK=>?_) ĩ);go_simp;refine hK _ _ ?_;clear hK;refine ĥ (rs:=[10]) δ φ (Ę rfl (λK hK=>?_) ĩ);go_simp;refine hK _ _ ?_;clear hK;refine ĥ (rs:=[11]) δ φ (Ę rfl (λK hK=>?_) ĩ);go_simp;refine hK _ _ ?_;clear hK;refine wpAnyIn_done δ ?_ _;exact⟨rfl,qi.u⟩
  case hl0=>
   intro hL;refine ĥ (rs:=[0,8]) δ φ (Ę rfl (λK hK=>?_) (Ę rfl (λK hK=>?_) ĩ))
   .have f:=z9.u 3;go_simp;exact hK _ _ hL
   clear hL;rw[if_pos θ];refine Gu (.tmp 18) (.tmp 21) 113 rfl 0 178 i0 z0 4 64 underlying113 zr hz0 hz2 hz3 y7 η iv2 k (Hx c N k) rfl qd.u ⟨W.1.size,0,none⟩ 1 1 [.int .i64 kk,.slice pa pl pc,.slice none 0 0,.pointer px] rfl rfl (Ö (cs:=#[.int .i64 kk,.slice pa pl pc,.slice none 0 0,.pointer px]) (t:=178) (fr:=(0,0)) zj.u) (by simp[CL]) η ζ ζ (Ď _) (W.1.size+1) zl.u ?_;intro q q5 W3 ho q9 zc hlt;refine hK _ _ ?_;obtain⟨y1,y2,y3⟩:=HZ.u W3 q9;have qi:=Ab (HT.u q q5 W2 W3 zi.u ho q9 ε);clear hK ho q9 zc hlt;refine ĥ (rs:=[0]) δ φ (Ę rfl (λK hK=>?_) ĩ);go_simp;refine hK _ _ ?_;clear hK;refine ĥ (rs:=[9]) δ φ (Ę rfl (λK hK=>?_) ĩ);go_simp;refine hK _ _ ?_;clear hK;refine ĥ (rs:=[10]) δ φ (Ę rfl (λK hK=>?_) ĩ);go_simp;refine hK _ _ ?_;clear hK;refine ĥ (rs:=[11]) δ φ (Ę rfl (λK hK=>?_) ĩ);go_simp;refine hK _ _ ?_;clear hK;refine wpAnyIn_done δ ?_ _;exact⟨rfl,qi.u⟩
 case hdone=>
  intro W hI hK;rw[qq.u,<-qh.u]at hK |-;obtain⟨iv2,q8,q6,q7⟩:=hI.doc;have qo:W.1[w.1.size]?=some (.cells #[PtB D] 60 (0,0)):=hI.bx.trans zk.u;have f0:W.cell? ⟨w.1.size,0,none⟩=some (PtB D):=ck qo;have d1:=q8.c1;have d2:=q8.c2;have dz:∀o,W.frozen? ⟨D,o,none⟩=false:=λo=>fk q8;have hne:w.1.size≠D:=by have:=z8.u;omega
  have yd:=Ab q8;have zb:=Ab q6;have qu:=Ab q7;have qb:=Ab hI;clear q8 q6 q7 hI qo
  gi_wp2
  have yj:=qh.u;have qe:=z8.u;have yn:=yf.u;have ym:((W.setCell ⟨D,2,none⟩ (.bool true)).setCell ⟨D,1,none⟩ (.slice none 0 0)).1[B]?=some (.deferred (some [])):=(Æ _ _ _ _ ε).trans ((Æ _ _ _ _ ε).trans hK);refine⟨φ,.inl ⟨_,_,rfl,CH ym,?_⟩⟩;refine⟨_,þ rfl _ _ _,rfl,iv2,?_,⟨Hx c N N,?_,λq hq=>À (by have:=(qu.u q hq).1;omega),?_⟩,?_⟩
  .have h2:DB (W.setCell ⟨D,2,none⟩ (.bool true)) D rv (.slice ao N cap) true iv2:=by
    have h:=yd.u;simp only[DB,A2,ğ];rw[if_pos trivial,show W.1[D]?=_ from h];rfl
   exact(ò ζ).trans (h2.set1 _)
  .rw[Ľ,<-yn];refine Bz zb.u λq hq=>?_;obtain⟨p1,p2,p3⟩:=qu.u q hq;exact(ò ζ).trans ((Æ _ _ _ _ ε).trans (Æ _ _ _ _ ε))
  .have h1:=za.u N (Á _);rw[Ï ω]at h1;refine h1.move λq hq zg=>⟨?_,Å hq⟩
   have qm:q≠D:=λe=>ye.u (e▸hq.1);exact(ò ζ).trans ((Æ _ _ _ _ qm).trans ((Æ _ _ _ _ qm).trans (qb.u.old q zg qm)))
  .refine⟨qb.u.os,qb.u.tape,qb.u.output,?_,λq zg qm=>(ò ζ).trans ((Æ _ _ _ _ qm).trans ((Æ _ _ _ _ qm).trans (qb.u.old q zg qm)))⟩;have:=qb.u.size;simp[C0,A2];omega
end
