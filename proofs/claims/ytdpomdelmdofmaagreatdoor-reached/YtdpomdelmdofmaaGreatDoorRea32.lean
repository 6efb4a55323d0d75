import Derived.Test.YtdpomdelmdofmaaGreatDoorRea31
open Go.Lib renaming hasPrefix->AI,index->A1,cut->Dt
open Go.Proofs.Tryz renaming prog->AS
open Go renaming World->AT,Value->CH,madeCells->C2,Calls->DD
open Go.RowKit renaming Below->A2
open Go.RowKit.Below renaming heap_setCell->A3,refl->A4,heap_alloc->CD
open Nat renaming le_refl->A5
open Go.WideAt renaming sameKey_self->A6
open Int renaming toNat_of_nonneg->Bs,emod_lt_of_pos->BY,emod_nonneg->C1
open Go.Instr renaming index->CL
open Go.World renaming cell?->CR
open Or renaming inl->Dp
open Go.DataW renaming map->D0
set_option maxHeartbeats 4000000
set_option maxRecDepth 100000
namespace Go.Proofs.YtdpomdelmdofmaaGreatDoor
open Go.Proofs.Tryz Go.RowKit Go.Maps
variable{F:Nat->Prop}{w1:AT}{l:By}{cs:Array CH}
def Src(f:Nat)(F:Nat->Prop)(w:AT)(v:CH)(a:To):Prop:=∃b x n s sl mv,v=.pointer (some ⟨b,0,none⟩)/\VB w b x n s sl mv /\
 ((mv=.map none/\AD a=[]) \/ ∃m n' D,mv=.map (some m)/\w.ownsMap AS 9 RV m n' (.map D)/\Pt (Rep f F w) D (AD a))
theorem Th{f:Nat}{w:AT}{v:CH}{a:To}(h:Rep (f+1) F w v a):Src f F w v a:=by
 obtain⟨b,rfl,_,h⟩:=h;rcases h with⟨k,_,rfl,h⟩|⟨n,rfl,h,_⟩|⟨s,rfl,h⟩|⟨es,sl,ps,rfl,h,_⟩|⟨es,m,n,D,rfl,h,_,ho,hp⟩
 ·exact⟨b,_,_,_,_,_,rfl,h,Dp ⟨rfl,rfl⟩⟩
 ·exact⟨b,_,_,_,_,_,rfl,h,Dp ⟨rfl,rfl⟩⟩
 ·exact⟨b,_,_,_,_,_,rfl,h,Dp ⟨rfl,rfl⟩⟩
 ·exact⟨b,_,_,_,_,_,rfl,h,Dp ⟨rfl,rfl⟩⟩
 ·exact⟨b,_,_,_,_,_,rfl,h,Or.inr ⟨m,n,D,rfl,ho,hp⟩⟩
theorem VM{f:Nat}{w:AT}{mv x:CH}{xs:List (Lit×To)}{kl:Lit}(h:(mv=.map none/\xs=[]) \/ ∃m n' D,mv=.map (some m)/\w.ownsMap AS 9 RV m n' (.map D)/\Pt (Rep f F w) D xs)(hk:keyOf AS 9 x=some kl):
  ∃y,(match Aj xs kl with|none=>y=.pointer none|some c=>Rep f F w y c) /\ ∀w',A2 w.heap.size w w'->(Instr.lookup 109 mv x true).run AS w'=.ok (.tuple #[y,.bool (Aj xs kl).isSome]) w':=by
 rcases h with⟨rfl,rfl⟩|⟨m,n',D,rfl,ho,hp⟩
 ·exact⟨.pointer none,rfl,fun w' _=>Maps.look_nil true BE underlying109 (B3 w') hk⟩
 ·have q4:=Bg ho;have hh:=hp.has kl;cases hc:has (.map D:DataW CH) kl with
  | false=>
   have e1:Aj xs kl=none:=by
    unfold Aj
    grind
   rw[e1];refine⟨.pointer none,rfl,fun w' q0=>?_⟩;obtain⟨v1,q5,r1,q1⟩:=(An ho (q0.block m q4)).look_ok BE underlying109 (B3 w') (zd:=.held (.pointer none)) (zp:=[]) rfl hk;obtain⟨rfl,_⟩:=Cg q1 (atKey_of_not_has hc _)
   grind
  | true=>
   obtain⟨y,e4,hy⟩:=hp.at kl hc;have e1:Aj xs kl=some ((D0 xs).atKey kl .nil):=by
    unfold Aj
    grind
   rw[e1];refine⟨y,hy,fun w' q0=>?_⟩;obtain⟨v1,q5,r1,q1⟩:=(An ho (q0.block m q4)).look_ok BE underlying109 (B3 w') (zd:=.held (.pointer none)) (zp:=[]) rfl hk;obtain⟨rfl,_⟩:=Cg q1 (e4 _)
   grind
structure Cs(f N:Nat)(w:AT)(F1:Nat->Prop)(H:Lit->Bool)(Z:Lit->To)(cnt:Nat)(wr:AT):Prop where
 bel:A2 w.heap.size w wr
 sz:w.heap.size<wr.heap.size
 el:∃n' D' es',n'+cnt<=N/\wr.ownsMap AS 9 RV w.heap.size n' (.map D')/\Pt (Rep f F1 wr) D' es'/\(∀k,Maps.has (.map es':DataW Unit) k=H k) /\ ∀k,H k=true->(D0 es').atKey k .nil=Z k
section
variable{f N:Nat}{w:AT}{F1:Nat->Prop}{H:Lit->Bool}{Z:Lit->To}{cnt:Nat}{wr:AT}
theorem Cs.grow{it:Option Nat}{F2:Nat->Prop}(h:Cs f N w F1 H Z cnt wr)(hg:wr.grownBy w1 it)(hit:some w.heap.size≠it)(hlt:∀i,it=some i->w.heap.size<=i)(h2:∀k,F1 k->k<wr.heap.size->some k≠it/\F2 k):Cs f N w F2 H Z cnt w1:=by
 have hs:=h.sz;have q4:=hg.size;obtain⟨n',D',es',g1,g2,g3,g4⟩:=h.el;refine⟨⟨hg.os.trans h.bel.os,hg.tape.trans h.bel.tape,hg.output.trans h.bel.output,by omega,fun j hj=>(hg.block j (by omega) (by grind)).trans (h.bel.block j hj)⟩,by omega,n',D',es',g1,An g2 (hg.block _ (by omega) hit),g3.mono fun _ _ hr=>hr.move fun k hk q0=>⟨hg.block k q0 (h2 k hk q0).1,(h2 k hk q0).2⟩,g4⟩
theorem Cs.low(h:Cs f N w F1 H Z cnt wr)(hb:A2 wr.heap.size wr w1):Cs f N w F1 H Z cnt w1:=by
 obtain⟨n',D',es',g1,g2,g3,g4⟩:=h.el;exact⟨h.bel.trans (hb.mono h.bel.size),Nat.lt_of_lt_of_le h.sz hb.size,n',D',es',g1,An g2 (hb.block _ h.sz),g3.mono fun _ _ hr=>hr.bel hb,g4⟩
theorem Cs.as{H':Lit->Bool}{Z':Lit->To}{cnt1:Nat}(h:Cs f N w F1 H Z cnt wr)(hc:cnt1<=cnt)(hH:∀k,H k=H' k)(hZ:∀k,H' k=true->Z k=Z' k):Cs f N w F1 H' Z' cnt1 wr:=by
 obtain⟨n',D',es',g1,g2,g3,g4,g5⟩:=h.el;exact⟨h.bel,h.sz,n',D',es',by omega,g2,g3,by grind,by grind⟩
theorem Cs.put{cnt1:Nat}(h:Cs f N w F1 H Z cnt wr)(hc:cnt1<cnt)(hN:N<maxLen)(hF:∀k,F1 k->k≠w.heap.size){x:CH}{kl:Lit}(q0:keyOf AS 9 x=some kl)(kk:WideAt.IsKeyLit kl){p:Addr}{d:To}(hv:Rep f F1 wr (.pointer (some p)) d):
  ∃w3,(Instr.mapUpdate 109 (.map (some w.heap.size)) x (.pointer (some p))).run AS wr=.ok () w3/\Cs f N w F1 (fun k=>k.sameKey kl || H k) (fun k=>if k.sameKey kl=true then d else Z k) cnt1 w3/\wr.grownBy w3 (some w.heap.size):=by
 have hs:=h.sz;obtain⟨n',D',es',g1,g2,g3,g4,g5⟩:=h.el;obtain⟨w3,q4,q5,hg⟩:=g2.update BE underlying109 (by omega) q0 (val:=.pointer (some p)) (d:=.held (.pointer (some p))) (ps:=[]) rfl;have q7:=hg.size;have hk:∀j,j<wr.heap.size->j≠w.heap.size->w3.heap[j]? = wr.heap[j]?:=fun j h1 h2=>hg.block j h1 (by grind);obtain⟨D2,q6,e1,e2,ht⟩:=Pt.put kl (.pointer (some p)) d hv g3;rw[e1] at q5;refine⟨w3,q4,⟨⟨hg.os.trans h.bel.os,hg.tape.trans h.bel.tape,hg.output.trans h.bel.output,by omega,fun j hj=>(hk j (by omega) (by omega)).trans (h.bel.block j hj)⟩,by omega,n'+1,D2,q6,by omega,q5,ht.mono fun _ _ hr=>hr.move (by grind),fun k=>?_,fun k=>?_⟩,hg⟩
 ·rw[<- e2];by_cases hkk:k=kl
  ·subst hkk;rw[has_put_same ⟨_,rfl⟩ kk,A6 kk];rfl
  ·rw[has_put_other hkk,g4,Cn hkk];rfl
 ·rw[<- e2];by_cases hkk:k=kl
  ·subst hkk;intro _;rw[atKey_put_same ⟨_,rfl⟩ kk,if_pos (A6 kk)]
  ·rw[atKey_put_other hkk,Cn hkk]
   grind
end
def iI(l:By):Option UInt8:=match l with
 | 126::48::_=>some 126
 | 126::49::_=>some 47
 | _=>none
theorem Ff{B:Nat}{a w:AT}(h:A2 B a w)(q:Nat):A2 B a (w.drewN q):=⟨h.os,h.tape,h.output,h.size,h.block⟩
theorem ET.below{w w':AT}{B:Nat}(h:ET w)(hb:A2 B w w')(hB:4<B):ET w':=by
 obtain⟨t,fr,e⟩:=h;exact⟨t,fr,(hb.block _ hB).trans e⟩
theorem ET.kept{w w':AT}(h:ET w)(hb:A2 w.heap.size w w'):ET w':=by
 refine h.below hb ?_;obtain⟨t,fr,e⟩:=h
 grind
theorem ZP(w:AT):(CL 256 (.agg E5) (.int .i64 0)).run AS w=.ok (.agg #[.string ⟨#[126,48]⟩,.int .u8 126]) w:=by kernel_rfl
theorem ZO(w:AT):(CL 256 (.agg E5) (.int .i64 1)).run AS w=.ok (.agg #[.string ⟨#[126,49]⟩,.int .u8 47]) w:=by kernel_rfl
theorem JN(l:By)(p:ByteArray)(w:AT):DD AS 194 #[.string ⟨l.toArray⟩,.string p] w fun e w'=>e=.returned (.bool (AI l p.data.toList))/\w'=w:=Tryz.strings_HasPrefix ⟨l.toArray⟩ p w
theorem bJ(h:AI l [126,48]=true):iI l=some 126:=by
 match l,h with
 | [],h=>cases h
 | [a],h=>simp[AI] at h
 | a::b::r,h=>
  simp[AI] at h;rw[<- h.1,<- h.2];rfl
theorem bI(h:AI l [126,49]=true):iI l=some 47:=by
 match l,h with
 | [],h=>cases h
 | [a],h=>simp[AI] at h
 | a::b::r,h=>
  simp[AI] at h;rw[<- h.1,<- h.2];rfl
theorem ZN(h:AI l [126,48]=false)(h1:AI l [126,49]=false):iI l=none:=by
 match l,h,h1 with
 | [],_,_=>rfl
 | [a],_,_=>unfold iI;grind
 | a::b::r,h,h1=>
  unfold iI;split
  ·rename_i e;injection e with e1 e2;injection e2 with e2 _;subst e1;subst e2;simp[AI] at h
  ·rename_i e;injection e with e1 e2;injection e2 with e2 _;subst e1;subst e2;simp[AI] at h1
  ·rfl
def EJ(j:Nat):ByteArray:=if j=0 then ⟨#[126,48]⟩ else ⟨#[126,49]⟩
def D5(j:Nat):Int:=if j=0 then 126 else 47
theorem Qs(j:Nat)(hj:j<2)(w:AT):(CL 256 (.agg E5) (.int .i64 j)).run AS w=.ok (.agg #[.string (EJ j),.int .u8 (D5 j)]) w:=by
 match j,hj with
 | 0,_=>exact ZP w
 | 1,_=>exact ZO w
theorem Mm(j:Nat)(hj:j<2):(EJ j).size=2:=by
 match j,hj with
 | 0,_=>rfl
 | 1,_=>rfl
def PSt(l:By)(j:Nat):Prop:=(1<=j->AI l [126,48]=false)/\(2<=j->AI l [126,49]=false)
theorem PSt.step{j:Nat}(hj:j<2)(h:PSt l j)(hh:AI l (EJ j).data.toList=false):PSt l (j+1):=by
 match j,hj with
 | 0,_=>exact⟨fun _=>hh,by omega⟩
 | 1,_=>exact⟨fun _=>h.1 (by omega),fun _=>hh⟩
def Lz(o:Option UInt8):CH:=match o with
 | none=>.tuple #[.int .u8 0,.int .i64 0]
 | some c=>.tuple #[.int .u8 c.toNat,.int .i64 2]
theorem YC{j:Nat}(hj:j<2)(_:PSt l j)(hh:AI l (EJ j).data.toList=true):Lz (iI l)=.tuple #[.int .u8 (D5 j),.int .i64 2]:=by
 match j,hj with
 | 0,_=>rw[bJ hh];rfl
 | 1,_=>rw[bI hh];rfl
theorem PI(l:By)(w:AT)(hT:ET w):
  DD AS 146 #[.string ⟨l.toArray⟩] w fun e w'=>e=.returned (Lz (iI l))/\A2 w.heap.size w w':=by
 obtain⟨R,hR⟩:∃R,R=Lz (iI l):=⟨_,rfl⟩
 rw[<- hR];have HR:=Ab hR;have q6:=fun w1=>JN l ⟨#[126,48]⟩ w1;have q7:=fun w1=>JN l ⟨#[126,49]⟩ w1;have qe:=Ab q6;have qf:=Ab q7;have hlt:4<w.heap.size:=by obtain⟨t,fr,e⟩:=hT;grind
 obtain⟨tt,fz,q5⟩:=hT;clear hR q6 q7
 go_enter func146,ntmps146
 go_wp2_with (refine wpList_load_row rfl 256 _ rfl 4 rfl tt _ fz _ q5 underlying256 rfl (by kernel_rfl) ?_)
 clear q5
 go_loopw [7] (fun i wr=>∃j:Nat,j<=2/\i=.int .i64 j/\A2 w.heap.size w wr/\Hid (PSt l j)) (fun i _=>2-(intOf i).toNat)
 case atStart=>exact⟨0,by omega,rfl,A4 _ _,by omega,by omega⟩
 case round=>
  obtain⟨j,hj,rfl,hb,q8⟩:=hrel;have HB:=Ab hb;have HS:=Ab (Aa q8);have hsz:=hb.size;clear hb q8;by_cases h2:j=2
  ·subst h2;have HV:=Ab (show R=.tuple #[.int .u8 0,.int .i64 0] by rw[Aa HR,ZN ((Aa HS).1 (by omega)) ((Aa HS).2 (by omega))];rfl)
   go_wp2_with (fail)
   go_ret2
   exact⟨by rw[Aa HV];rfl,Aa HB⟩
  ·have q4:j<2:=by omega
   have qd:(j:Int)<2:=by omega
   have qb:=fun w1=>Qs j q4 w1;have q0:=Ab (fun w1=>JN l (EJ j) w1);have qg:=Mm j q4;cases hh:AI l (EJ j).data.toList with
   | true=>
    have HV:=Ab (show R=.tuple #[.int .u8 (D5 j),.int .i64 2] by rw[Aa HR];exact YC q4 (Aa HS) hh);rw[hh] at q0;clear hh;generalize EJ j=pk at *;generalize D5 j=pb at *
    go_wp2_with (fail);refine (Aa q0 _).mono ?_
    rintro e w2 ⟨rfl,rfl⟩
    go_wp2_with (fail)
    go_quiet (fail)
    go_wp2_with (fail)
    go_ret2
    exact⟨by rw[Aa HV];rfl,Ff ((Aa HB).alloc hsz _) _⟩
   | false=>
    have q9:=Ab ((Aa HS).step q4 hh);rw[hh] at q0;clear hh;generalize EJ j=pk at *;generalize D5 j=pb at *
    go_wp2_with (fail);refine (Aa q0 _).mono ?_
    rintro e w2 ⟨rfl,rfl⟩
    go_wp2_with (fail)
    go_roundw
    case rel=>exact⟨j+1,by omega,by go_num,(Aa HB).alloc hsz _,q9⟩
    case measure=>simp[intOf];omega
theorem aY(l:By):(fV l).length<=l.length:=(List.takeWhile_sublist _).length_le
theorem QL:∀l:By,(A1 l [126] = -1/\fV l=l)\/(A1 l [126]=(fV l).length /\ ∃r,l=fV l++126::r)
 | []=>Dp ⟨rfl,rfl⟩
 | b::l=>by
  by_cases hb:b=126
  ·subst hb;exact Or.inr ⟨by rfl,l,by rfl⟩
  ·have h1:fV (b::l)=b::fV l:=by simp[fV,hb]
   have h2:A1 (b::l) [126]=if A1 l [126]==-1 then -1 else A1 l [126]+1:=by
    grind [fV,A1,List.isPrefixOf]
   rw[h1,h2];rcases QL l with⟨e1,e2⟩|⟨e1,r,e2⟩
   ·grind
   grind
theorem aQ(h:A1 l [126] = -1):Dt l [126]=(l,[],false):=by
 unfold Dt;rw[h];rfl
theorem Zk{r:By}(h:A1 l [126]=(fV l).length)(e:l=fV l++126::r):Dt l [126]=(fV l,r,true):=by
 unfold Dt;rw[h,if_pos (by omega)];simp only[Int.toNat_natCast];have e1:l.take (fV l).length=fV l:=by
  grind
 have e2:l.drop ((fV l).length+[(126:UInt8)].length)=r:=by
  have h1:(fV l++126::r).drop ((fV l).length+1)=r:=by
   rw[<- List.drop_drop,List.drop_left' rfl];rfl
  grind
 rw[e1,e2]
theorem Ip:∀ {p:By} (r:By),(∀c∈p,c≠126)->eO (p++r)=(eO r).map (p ++ ·)
 | [],r,_=>by simp
 | c::p,r,h=>by
  rw[List.cons_append,Eq,if_neg (h c (by simp)),Ip r (fun d hd=>h d (by simp[hd]))];cases eO r<;>rfl
theorem Re(l:By):∀c∈fV l,c≠126:=by
 induction l with
 | nil=>intro c hc;cases hc
 | cons b l ih=>
  intro c hc;by_cases hb:b=126
  ·subst hb;simp[fV] at hc
  ·have h1:fV (b::l)=b::fV l:=by simp[fV,hb]
   grind
theorem Zy(h:fV l=l):eO l=some l:=by
 have:=Ip (p:=l) [] (by rw[<- h];exact Re l);rw[List.append_nil] at this;rw[this];simp[eO]
theorem XZ(r:By):eO (126::r)=match iI (126::r) with
 | none=>none
 | some c=>(eO ((126::r).drop 2)).map (c :: ·):=by
 rw[Eq,if_pos rfl]
 match r with
 | []=>rfl
 | b::q=>
  by_cases h0:b=48
  ·subst h0;rfl
  ·by_cases h1:b=49
   ·subst h1;rfl
   ·have e:iI (126::b::q)=none:=by
     unfold iI
     grind
    grind
def Plain(l:List St):Prop:=∀o∈l,SN o
def Scr(w:AT)(sb so:Nat)(l:List St):Prop:=∀i (h:i<l.length),w.cell? ⟨sb,so+i*3,none⟩=some (.int .i64 l[i].1)/\w.cell? ⟨sb,so+i*3+1,none⟩=some (.string ⟨l[i].2.1.toArray⟩)/\w.cell? ⟨sb,so+i*3+2,none⟩=some (.string ⟨l[i].2.2.toArray⟩)
def Id(cs:Array CH)(n:Nat)(a:List fE):Prop:=cs.size=n*3 /\ ∀i (h:i<a.length),cs[i*3]? = some (.int .i64 a[i].1)/\cs[i*3+1]? = some (.int .i64 a[i].2.1)/\cs[i*3+2]? = some (.string ⟨a[i].2.2.toArray⟩)
theorem Xz:(Tryz.prog.info? 46).map (fun i=>(i.zero,i.size,i.bytes))=some (some (.agg #[.int .i64 0,.int .i64 0,.string ⟨#[]⟩]),3,32):=by kernel_rfl
theorem Xy(n:Nat)(hn:n*32<=281474976710656)(w:AT):(Instr.makeSlice 43 (.int .i64 n) (.int .i64 n)).run AS w=.ok (.slice (some ⟨w.heap.size,0,none⟩) n n) (w.alloc (.cells (C2 #[.int .i64 0,.int .i64 0,.string ⟨#[]⟩] (n*3)) 46)):=by
 obtain⟨i,hi,h⟩:=Option.map_eq_some_iff.1 Xz;injection h with h1 h2;injection h2 with h2 h3;have:=run_make (P:=AS) w 43 46 i _ underlying43 hi h1 .i64 .i64 n n (by omega) (by omega) (by grind) (by omega)
 grind [Value.cells]
theorem Lq{w:AT}{A t:Nat}{fr:Nat×Nat}(h:w.heap[A]? = some (.cells cs t fr))(o:Nat)(u:CH):(w.setCell ⟨A,o,none⟩ u).heap[A]? = some (.cells (cs.setIfInBounds o u) t fr):=by
 grind [World.setCell]
theorem Id.snoc{n:Nat}{a:List fE}(h:Id cs n a)(x:fE)(hl:a.length<n):
  Id (((cs.setIfInBounds (a.length*3) (.int .i64 x.1)).setIfInBounds (a.length*3+1) (.int .i64 x.2.1)).setIfInBounds (a.length*3+2) (.string ⟨x.2.2.toArray⟩)) n (a++[x]):=by
 obtain⟨h1,h2⟩:=h;refine⟨by grind,fun i hi=>?_⟩;simp only[Array.getElem?_setIfInBounds,Array.size_setIfInBounds]
 grind
def Ps(d e n:Int)(l:List St)(S A m:Nat)(w0:AT)(k:Nat)(w:AT):Prop:=
 ∃p cs,SB w S d e n p/\Bl w (fun j=>w0.heap.size<=j/\j≠S/\j≠A) p d e (gI d e n none (l.take k))/\w.heap[A]? = some (.cells cs 46 (0,0))/\Id cs m (fU d e n none (l.take k))/\A2 w0.heap.size w0 w
theorem Ps.next{d e n:Int}{l:List St}{S A m k:Nat}{w0 w:AT}(hk:k<l.length)(hm:m=l.length)(qf:S≠A)(q4:w0.heap.size<=A)(qh:w0.heap.size<=S)(hA:w.heap[A]? = some (.cells cs 46 (0,0)))(q5:Id cs m (fU d e n none (l.take k)))(hb:A2 w0.heap.size w0 w){w3:AT}{o:Obj}(q9:w1=w.alloc o)(qi:S<w.heap.size)(hF:∀j,F j->w0.heap.size<=j/\j≠S/\j≠A)(qg:Ct S d e n (gI d e n none (l.take k)) l[k] F w1 (.returned (Ax (eM d e n (gI d e n none (l.take k)) l[k]).1)) w3):
  Ps d e n l S A m w0 (k+1) (((w3.setCell ⟨A,k*3,none⟩ (.int .i64 (eM d e n (gI d e n none (l.take k)) l[k]).1.1)).setCell ⟨A,k*3+1,none⟩ (.int .i64 (eM d e n (gI d e n none (l.take k)) l[k]).1.2.1)).setCell ⟨A,k*3+2,none⟩ (.string ⟨(eM d e n (gI d e n none (l.take k)) l[k]).1.2.2.toArray⟩)):=by
 obtain⟨_,q8,p',hsb,hdoc⟩:=qg;have qe:A<w.heap.size:=by grind
 have qb:w1.heap[A]? = some (.cells cs 46 (0,0)):=by rw[q9];exact (CD _ _ _ qe).trans hA
 have qj:w1.heap.size=w.heap.size+1:=by simp_all
 have qd:w3.heap[A]? = some (.cells cs 46 (0,0)):=(q8.block A (by omega) (by grind)).trans qb;have q6:(fU d e n none (l.take k)).length=k:=by rw[kX,List.length_take];omega
 have htk:l.take (k+1)=l.take k++[l[k]]:=List.take_succ_eq_append_getElem hk;have q7:=Lq (Lq (Lq qd (k*3) (.int .i64 (eM d e n (gI d e n none (l.take k)) l[k]).1.1)) (k*3+1) (.int .i64 (eM d e n (gI d e n none (l.take k)) l[k]).1.2.1)) (k*3+2) (.string ⟨(eM d e n (gI d e n none (l.take k)) l[k]).1.2.2.toArray⟩);have q0:=q5.snoc (eM d e n (gI d e n none (l.take k)) l[k]).1 (by omega);rw[q6,<- kY,<- htk] at q0;have ho:∀j,j≠A->(((w3.setCell ⟨A,k*3,none⟩ (.int .i64 (eM d e n (gI d e n none (l.take k)) l[k]).1.1)).setCell ⟨A,k*3+1,none⟩ (.int .i64 (eM d e n (gI d e n none (l.take k)) l[k]).1.2.1)).setCell ⟨A,k*3+2,none⟩ (.string ⟨(eM d e n (gI d e n none (l.take k)) l[k]).1.2.2.toArray⟩)).heap[j]? = w3.heap[j]?:=fun j hj=>
  (A3 _ _ _ _ hj).trans ((A3 _ _ _ _ hj).trans (A3 _ _ _ _ hj))
 refine⟨p',_,(ho S qf).trans hsb,?_,q7,q0,?_⟩
 ·rw[htk,kZ];refine hdoc.move fun j h1 _=>?_
  grind
 ·have hb1:A2 w0.heap.size w0 w1:=by rw[q9];exact hb.alloc (by omega) _
  have hb3:A2 w0.heap.size w0 w3:=hb1.trans (q8.below (by grind) hb1.size);exact Au (Au (Au hb3 A _ q4 _) A _ q4 _) A _ q4 _
theorem Id.cell{n:Nat}{a:List fE}(h:Id cs n a)(j:Nat)(hj:j<n*3):∃u,cs[j]? = some u:=by
 have:=h.1
 simp_all
theorem Hz{d e n:Int}{sb so m cap:Nat}{l:List St}{w:AT}(hs:Scr w sb so l)(qo:Plain l)(hm:m=l.length)(hpos:0<m)(qx:m<=cap)(hb:m*32<=281474976710656)(hsb:sb<w.heap.size)(hT:Ai w):
  DD AS 24 #[.agg #[.int .i64 d,.int .i64 e,.int .i64 n],.slice (some ⟨sb,so,none⟩) m cap] w fun x w'=>∃A cs,x=.returned (.slice (some ⟨A,0,none⟩) m m)/\w.heap.size<=A/\w'.heap[A]? = some (.cells cs 46 (0,0))/\Id cs m (fU d e n none l)/\A2 w.heap.size w w':=by
 have za:=Xy m hb;have zb:(m:Int)<=9223372036854775807:=by omega
 have HM:=Ab hm;have HS:=Ab hs;have HT:=Ab hT;have qz:=hT.ng;have qk:Hid (Ps d e n l (w.heap.size+1+1) (w.heap.size+1) m w 0 (((w.alloc (.cells #[.int .i64 d,.int .i64 e,.int .i64 n] 23)).alloc (.cells (C2 #[.int .i64 0,.int .i64 0,.string ⟨#[]⟩] (m*3)) 46)).alloc (.cells #[.int .i64 d,.int .i64 e,.int .i64 n,.pointer none] 62))):=by
  refine⟨.pointer none,C2 #[.int .i64 0,.int .i64 0,.string ⟨#[]⟩] (m*3),?_,rfl,?_,⟨size_madeCells _ _,fun i hi=>absurd hi (by simp[fU])⟩,(((A4 _ w).alloc (A5 _) _).alloc (by simp) _).alloc (by simp;omega) _⟩
  ·show (((w.heap.push _).push _).push _)[w.heap.size+1+1]? = _
   grind
  ·show (((w.heap.push _).push _).push _)[w.heap.size+1]? = _
   grind
 have qt:=Ab qo;clear hm hs hT qo
 go_enter func24,ntmps24
 go_wp2_with (fail)
 go_loopw [16] (fun i wr=>∃k:Nat,k<=m/\i=.int .i64 k/\Ps d e n l (w.heap.size+1+1) (w.heap.size+1) m w k wr) (fun i _=>m-(intOf i).toNat)
 case atStart=>exact⟨0,by omega,rfl,Aa qk⟩
 case round=>
  obtain⟨k,hk,rfl,p,cs,q7,hdoc,qd,q6,q4⟩:=hrel;by_cases hlt:k<m
  ·have qj:k<l.length:=by have:=Aa HM;omega
   obtain⟨q0,q1,q2⟩:=Aa HS k qj;have z1:wr.cell? ⟨sb,so+k*3,none⟩=some (.int .i64 l[k].1):=(q4.cell (p:=⟨sb,so+k*3,none⟩) hsb).trans q0;have z6:wr.cell? ⟨sb,so+k*3+1,none⟩=some (.string ⟨l[k].2.1.toArray⟩):=(q4.cell (p:=⟨sb,so+k*3+1,none⟩) hsb).trans q1;have z7:wr.cell? ⟨sb,so+k*3+2,none⟩=some (.string ⟨l[k].2.2.toArray⟩):=(q4.cell (p:=⟨sb,so+k*3+2,none⟩) hsb).trans q2;have qu:=Ab q7;have qh:=Ab hdoc;have q9:=Ab qd;have q5:=Ab q6;have q8:=Ab q4;have qi:=q7.lt;have z8:=q4.size;clear q0 q1 q2 q7 hdoc qd q6 q4 qk;have qw:w.heap.size+1<wr.heap.size:=by omega
   go_wp2_with (fail);have qf:A2 wr.heap.size wr (wr.alloc (.cells #[.int .i64 l[k].1,.string ⟨l[k].2.1.toArray⟩,.string ⟨l[k].2.2.toArray⟩] 49)):=(A4 _ _).alloc (A5 _) _
   have qm:Bl (wr.alloc (.cells #[.int .i64 l[k].1,.string ⟨l[k].2.1.toArray⟩,.string ⟨l[k].2.2.toArray⟩] 49)) (fun j=>w.heap.size<=j/\j≠w.heap.size+1+1/\j≠w.heap.size+1) p d e (gI d e n none (l.take k)):=(Aa qh).move fun j h1 h2=>⟨qf.block j h2,h1⟩
   refine (VL l[k].1 l[k].2.1 l[k].2.2 (by omega) ((Aa qt) _ (List.getElem_mem qj)) ((Aa qu).low qf) qm (((Aa HT).below ((Aa q8).mono qz)).below (qf.mono (by omega)))).mono ?_;rintro x w3 qg;have hx:=qg.1;subst hx;have qe:=qg;have qn:=qe.2.1;have qb:w3.heap[w.heap.size+1]? = some (.cells cs 46 (0,0)):=(qn.block _ (by simp;omega) (by omega)).trans ((CD _ _ _ qw).trans (Aa q9));obtain⟨u0,qp⟩:=(Aa q5).cell (k*3) (by omega);obtain⟨u1,qq⟩:=(Aa q5).cell (k*3+1) (by omega);obtain⟨u2,qr⟩:=(Aa q5).cell (k*3+2) (by omega);have g0:w3.cell? ⟨w.heap.size+1,k*3,none⟩=some u0:=by simp[CR,qb,qp]
   have g1:w3.cell? ⟨w.heap.size+1,k*3+1,none⟩=some u1:=by simp[CR,qb,qq]
   have g2:w3.cell? ⟨w.heap.size+1,k*3+2,none⟩=some u2:=by simp[CR,qb,qr]
   have z:∀o,w3.frozen? ⟨w.heap.size+1,o,none⟩=false:=fun o=>by simp[World.frozen?,qb]
   have qv:=Ab qg;clear qg qe qn qb qf qm qp qq qr;unfold Ax
   go_wp2_with (fail);exact⟨⟨k+1,by omega,by go_num,Ps.next qj (Aa HM) (by omega) (by omega) (by omega) (Aa q9) (Aa q5) (Aa q8) rfl qi (fun j hj=>hj) (Aa qv)⟩,by simp[intOf];omega⟩
  ·go_wp2_with (fail)
   go_ret;have qy:k=m:=by omega
   subst qy;rw[List.take_of_length_le (by have:=Aa HM;omega)] at q6
   simp_all
theorem JO(c:Int)(m:Nat)(h0:-9223372036854775808<=c)(h1:c<=9223372036854775807)(hm:0<m)(q0:m<=4611686018427387904)(w:AT):
  DD AS 23 #[.int .i64 c,.int .i64 m] w fun x w'=>(∃k:Nat,k<m/\x=.returned (.int .i64 k))/\w'=w:=by
 by_cases hc:c<0
 ·have e1:decide (c<0)=true:=by grind
  go_enter func23,ntmps23
  go_wp2_with (fail)
  go_ret;have e2:-(c+1).tmod (m:Int)=(-(c+1)) % (m:Int):=by
   rw[<- Int.neg_tmod,Int.tmod_eq_emod_of_nonneg (by omega)]
  have e3:=C1 (-(c+1)) (show (m:Int)≠0 by omega);have e4:=BY (-(c+1)) (show (0:Int)<m by omega);refine⟨⟨((-(c+1)) % (m:Int)).toNat,by omega,?_⟩,rfl⟩;rw[e2,Bs e3];rfl
 ·have e1:decide (c<0)=false:=by grind
  go_enter func23,ntmps23
  go_wp2_with (fail)
  go_ret;have e3:=C1 c (show (m:Int)≠0 by omega)
  have e4:=BY c (show (0:Int)<m by omega);refine⟨⟨(c % (m:Int)).toNat,by omega,?_⟩,rfl⟩;rw[Bs e3];rfl
theorem Bf(k:Int)(s t:ByteArray)(w:AT):DD AS 26 #[.int .i64 k,.string s,.string t] w fun x w'=>x=.returned (.agg #[.int .i64 k,.string s,.string t])/\A2 w.heap.size w w':=by
 go_enter func26,ntmps26
 go_wp2_with (fail);refine bodyPost_ret (v:=.agg #[.int .i64 k,.string s,.string t]) (by simp[results,results26,go_sem]) rfl ⟨rfl,?_⟩
 exact (A4 _ w).alloc (A5 _) _
theorem FJ(t:By)(w:AT):DD AS 30 #[Ba 0 t,.string ⟨t.toArray⟩] w fun x w'=>x=.returned (.bool true)/\A2 w.heap.size w w':=by
 unfold Ba
 go_enter func30,ntmps30
 go_wp2_with (fail)
 go_ret;exact⟨rfl,(A4 _ w).alloc (A5 _) _⟩
end Go.Proofs.YtdpomdelmdofmaaGreatDoor
