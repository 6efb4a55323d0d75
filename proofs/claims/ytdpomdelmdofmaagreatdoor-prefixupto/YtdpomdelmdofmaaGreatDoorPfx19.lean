import Derived.Test.YtdpomdelmdofmaaGreatDoorPfx18
open Go.Lib renaming hasPrefix->AI,index->AT,cut->CD
open Go.Proofs.Tryz renaming prog->AS
open Go.RowKit.Below renaming refl->A1
open Array renaming getElem?_eq_some_iff->A2
open Go.RowKit renaming Below->A3
open Go renaming World->A4,wpList_lookup_own_ok->A5,Value->A6,Calls->BY
open Go.Instr renaming index->Bs
open Or renaming inl->CH
set_option maxHeartbeats 8000000
set_option maxRecDepth 100000
namespace Go.Proofs.YtdpomdelmdofmaaGreatDoor
open Go.Proofs.Tryz Go.RowKit Go.Maps
variable{es:List To}{w:A4}{d:To}{l:By}
def KI(F:Nat->Prop)(w:A4)(v:A6)(d:To):Prop:=∃f,Rep f F w v d
def Out(F:Nat->Prop)(r:Except Nat To)(e:Ending)(w':A4):Prop:=match r with
 | .ok d=>∃v,e=.returned (.tuple #[v,.int .i64 0])/\KI F w' v d
 | .error c=>e=.returned (.tuple #[.pointer none,.int .i64 c])
theorem Ee(s:By)(h:s.length<=1048576):keyOf AS 9 (.string ⟨s.toArray⟩)=some (.string s):=by
 have:=Go.WideMaps.keyOf_string_mk underlying9 (s:=⟨s.toArray⟩) (by rw[AU];unfold maxLen;omega);simpa using this
section
variable{w:A4}{b:Nat}{F:Nat->Prop}{t:By}
theorem Di{k:Nat}(hk:k<5){n:Nm}{s:By}{sl mp:A6}(h:VB w b k n s sl mp):
  BY AS 111 #[.pointer (some ⟨b,0,none⟩),.string ⟨t.toArray⟩] w fun e w'=>e=.returned (.tuple #[.pointer none,.int .i64 11])/\A3 w.heap.size w w':=by
 have c0:=h.c0;clear h;have e5:((k:Int)==5)=false:=by rw[beq_eq_false_iff_ne];omega
 have e6:((k:Int)==6)=false:=by rw[beq_eq_false_iff_ne];omega
 go_enter func111,ntmps111
 go_wp2_with (fail)
 go_ret2
 exact⟨rfl,A1 _ _⟩
theorem SZ{f:Nat}{m n:Nat}{D:List (Lit×DataW A6)}{es:List (Lit×To)}(ht:t.length<=1048576)(h:VB w b 6 n0 [] (.slice none 0 0) (.map (some m)))(ho:w.ownsMap AS 9 RV m n (.map D))(hp:Pt (Rep f F w) D es):
  BY AS 111 #[.pointer (some ⟨b,0,none⟩),.string ⟨t.toArray⟩] w fun e w'=>Out F (AF (Ay es) t) e w'/\A3 w.heap.size w w':=by
 have q8:=Ab Bw;have q7:=Ab (fun w=>B0 w);have c0:=h.c0;have c6:=h.c6;have q9:=Ab (Ee t ht);have HH:=hp.has (.string t);obtain⟨R,hR⟩:∃R,R=AF (Ay es) t:=⟨_,rfl⟩
 rw[<- hR];unfold AF Ay at hR;simp only at hR;cases hh:Maps.has (.map D:DataW A6) (.string t) with
 | false=>
  rw[hh] at HH;rw[<- HH,if_neg (by decide)] at hR;have q0:=Ab (show Out F R (.returned (.tuple #[.pointer none,.int .i64 11])) w by rw[hR];rfl);have HO:=Ab ho;have q4:=Ab hh;clear hp h hR ho hh HH
  go_enter func111,ntmps111
  go_wp2_with (first|(at_lookup;refine A5 _ rfl _ _ 109 rfl 9 80 (Aa q8) underlying109 RV (Aa q7 _) (.held (.pointer none)) [] rfl m n (.map D) rfl (Aa HO) _ _ rfl (Aa q9) ?_;intro v2 qb q6;rw[Aa q4]))
  go_ret2
  exact⟨Aa q0,A1 _ _⟩
 | true=>
  rw[hh] at HH;rw[<- HH,if_pos rfl] at hR;obtain⟨x,e4,q5⟩:=hp.at (.string t) hh;have q0:=Ab (show Out F R (.returned (.tuple #[x,.int .i64 0])) w by rw[hR];exact⟨_,rfl,_,q5⟩);have HO:=Ab ho;have q4:=Ab hh;clear hp h hR ho hh HH
  go_enter func111,ntmps111
  go_wp2_with (first|(at_lookup;refine A5 _ rfl _ _ 109 rfl 9 80 (Aa q8) underlying109 RV (Aa q7 _) (.held (.pointer none)) [] rfl m n (.map D) rfl (Aa HO) _ _ rfl (Aa q9) ?_;intro v2 qb q6;rw[Aa q4];obtain⟨rfl,_⟩:=Cb q6 (e4 _)))
  go_ret2
  exact⟨Aa q0,A1 _ _⟩
theorem Gp(h:ZO t=none):AF (Ap es) t=.error 12:=by unfold AF Ap;simp only[h]
theorem H8{i:Nat}(h:ZO t=some i)(hi:i<es.length):AF (Ap es) t=.ok es[i]:=by unfold AF Ap;simp only[h,List.getElem?_eq_getElem hi]
theorem GX{i:Nat}(h:ZO t=some i)(hi:¬ i<es.length):AF (Ap es) t=.error 11:=by unfold AF Ap;simp only[h,List.getElem?_eq_none (Nat.le_of_not_lt hi)]
theorem S0{f:Nat}{sl:A6}{ps:List A6}(ht:t.length<=1048576)(hr:Rng w)(h:VB w b 5 n0 [] sl (.map none))(ho:w.ownsRow 0 80 1 sl ps.length ps)(ha:Al (Rep f F w) ps es):
  BY AS 111 #[.pointer (some ⟨b,0,none⟩),.string ⟨t.toArray⟩] w fun e w'=>Out F (AF (Ap es) t) e w'/\A3 w.heap.size w w':=by
 have c0:=h.c0;have c5:=h.c5;have q7:=h.lt;have hal:=ha.length;have hI:=Ab (FQ t w ht hr);obtain⟨N,hN⟩:∃N,N=ps.length:=⟨_,rfl⟩
 obtain⟨R,hR⟩:∃R,R=AF (Ap es) t:=⟨_,rfl⟩
 rw[<- hR];have q4:=DI ho;cases hi:ZO t with
 | none=>
  have q0:=Ab (fun w'=>show Out F R (.returned (.tuple #[.pointer none,.int .i64 12])) w' by rw[hR,Gp hi];rfl);rw[hi] at hI;clear ho ha h hR hal hr hi q4 c5
  go_enter func111,ntmps111
  go_wp2_with (fail);refine (Aa hI).mono ?_
  rintro e w2 ⟨rfl,hb⟩;unfold ET
  go_wp2_with (fail)
  go_ret2
  exact⟨Aa q0 _,hb⟩
 | some i=>
  rw[hi] at hI;by_cases hin:i<ps.length
  ·obtain⟨g,cap,rfl,a1,a2,a3,hc⟩:=Bh ho (by omega);have q0:=Ab (fun w' (hb:A3 w.heap.size w w')=>show Out F R (.returned (.tuple #[ps[i],.int .i64 0])) w' by
    rw[hR,H8 hi (by omega)];exact⟨_,rfl,f,(ha.get i hin (by omega)).bel hb⟩)
   have q8:=hc i hin;have q9:(N:Int)<=9223372036854775807:=by unfold maxLen at q4;omega
   have hlt:(i:Int)<(N:Int):=by omega
   generalize ps[i]=pv at *;have HC:=Ab q8;have q6:=Ab c5;rw[<- hN] at c5 a1;have q6:=Ab c5;clear ho ha hR hal hr hi q4 hc q8 c5
   go_enter func111,ntmps111
   go_wp2_with (fail);refine (Aa hI).mono ?_
   rintro e w2 ⟨rfl,hb⟩;have q5:=(hb.cell (p:=⟨b,5,none⟩) q7).trans (Aa q6);have qi:=(hb.cell (p:=⟨g,i,none⟩) a3).trans (Aa HC);have HB:=Ab hb;clear hb hN hin h;unfold ET
   go_wp2_with (fail)
   go_ret2
   exact⟨Aa q0 _ (Aa HB),Aa HB⟩
  ·have q0:=Ab (fun w'=>show Out F R (.returned (.tuple #[.pointer none,.int .i64 11])) w' by rw[hR,GX hi (by omega)];rfl);obtain⟨g,cap,rfl⟩:=Cr ho;have hlt:¬ (i:Int)<(N:Int):=by omega
   rw[<- hN] at c5;have q6:=Ab c5;clear ho ha hR hal hr hi q4 c5
   go_enter func111,ntmps111
   go_wp2_with (fail);refine (Aa hI).mono ?_
   rintro e w2 ⟨rfl,hb⟩;have q5:=(hb.cell (p:=⟨b,5,none⟩) q7).trans (Aa q6);have HB:=Ab hb;clear hb hN hin h;unfold ET
   go_wp2_with (fail)
   go_ret2
   exact⟨Aa q0 _,Aa HB⟩
end
theorem Td{F:Nat->Prop}{v:A6}{t:By}(ht:t.length<=1048576)(hr:Rng w)(h:KI F w v d):
  BY AS 111 #[v,.string ⟨t.toArray⟩] w fun e w'=>Out F (AF d t) e w'/\A3 w.heap.size w w':=by
 obtain⟨f,h⟩:=h;cases f with
 | zero=>exact h.elim
 | succ f=>
  obtain⟨p,rfl,_,h⟩:=h;rcases h with⟨k,hk,rfl,h⟩|⟨n,rfl,h,_⟩|⟨s,rfl,h⟩|⟨es,sl,ps,rfl,h,ho,_,hal⟩|⟨es,m,n,D,rfl,h,_,ho,hp⟩
  ·exact Di (k:=k) (by omega) h
  ·exact Di (k:=3) (by omega) h
  ·exact Di (k:=4) (by omega) h
  ·exact S0 ht hr h ho hal
  ·exact SZ ht h ho hp
theorem EM{t:By}{c:Nat}(h:AF d t=.error c):c=11\/c=12:=by
 unfold AF at h;split at h
 ·split at h
  ·cases h
  ·injection h with h;exact CH h.symm
 ·split at h
  ·injection h with h;exact Or.inr h.symm
  ·split at h
   ·cases h
   ·injection h with h;exact CH h.symm
 ·injection h with h;exact CH h.symm
theorem NV{F:Nat->Prop}{v pv:A6}{l:List By}(hl:∀t∈l,t.length<=1048576)(hn:l.length<=1048576)(hr:Rng w)(h:KI F w v d)(hp:CI w pv l):
  BY AS 81 #[pv,v] w fun e w'=>Out F (Ak d l) e w'/\A3 w.heap.size w w':=by
 rcases hp with⟨rfl,a,c,rfl,_⟩|⟨g,o,cap,rfl,_,_,a1,hc⟩
 ·have HH:=Ab h;clear hl hn hr h
  go_enter func81,ntmps81
  go_wp2_with (fail);refine wp_loop_rounds 1 ?_
  rw[rounds_succ]
  go_wp2_with (fail)
  go_ret2
  exact⟨⟨_,rfl,Aa HH⟩,A1 _ _⟩
 obtain⟨N,hN⟩:∃N,N=l.length:=⟨_,rfl⟩
 obtain⟨R,hR⟩:∃R,R=Ak d l:=⟨_,rfl⟩
 rw[<- hR,<- hN];have qk:(N:Int)<=1048576:=by omega
 have HL:=Ab hl;have HC:=Ab hc;have HR:=Ab hr;have HH:=Ab h;have HN:=Ab hN;have qf:=Ab hR;clear hl hc hr h hN hR hn
 go_enter func81,ntmps81
 go_wp2_with (fail)
 go_loopw [6,14] (fun a i wr=>∃ (k:Nat) (d':To),k<=N/\i=.int .i64 k/\KI F wr a d'/\Hid (Ak d l=Ak d' (l.drop k))/\A3 w.heap.size w wr) (fun _ i _=>N-(intOf i).toNat)
 case atStart=>exact⟨0,d,by omega,rfl,Aa HH,rfl,A1 _ _⟩
 case round=>
  obtain⟨k,d',hk,rfl,q0,q7,hb⟩:=hrel;have HB:=Ab hb;have q8:=Ab q0;by_cases hlt:k<N
  ·have h1:k<l.length:=by have:=Aa HN;omega
   have q4:l.drop k=l[k]::l.drop (k+1):=List.drop_eq_getElem_cons h1;have q:=(hb.cell (p:=⟨g,o+k,none⟩) a1).trans (Aa HC k h1);have q5:=Ab (Td (F:=F) (t:=l[k]) (Aa HL _ (List.getElem_mem h1)) ((Aa HR).kept hb) q0);have qb:(k:Int)<(N:Int):=by omega
   rw[q4] at q7;have qg:=Ab (show Ak d l=(match AF d' l[k] with | .ok e=>Ak e (l.drop (k+1)) | .error c=>.error c) from q7);generalize l[k]=tk at *;clear q7 hb q0 q4 h1
   go_wp2_with (fail);refine (Aa q5).mono ?_
   rintro e w2 ⟨ho,hb2⟩;have qe:=Ab ((Aa HB).trans (hb2.mono (Aa HB).size));clear hb2 q5 q;cases hch:AF d' tk with
   | ok d2=>
    rw[hch] at ho;obtain⟨v2,rfl,qd⟩:=ho;have qj:=Ab qd;have qi:=Ab (show Ak d l=Ak d2 (l.drop (k+1)) by have h9:=Aa qg;rw[hch] at h9;exact h9);clear qd hch
    go_wp2_with (fail);exact⟨⟨k+1,d2,by omega,by go_num,Aa qj,Aa qi,Aa qe⟩,by simp only[intOf];omega⟩
   | error c=>
    rw[hch] at ho;have qh:e=.returned (.tuple #[.pointer none,.int .i64 c]):=ho;subst qh;have q6:=Ab (show Out F R (.returned (.tuple #[.pointer none,.int .i64 c])) w2 by
     have h9:=Aa qg;rw[hch] at h9;rw[Aa qf,h9];rfl)
    have q9:=EM hch;have e1:((c:Int)==0)=false:=by rw[beq_eq_false_iff_ne];omega
    have e2:((c:Int) != 0)=true:=by rw[bne_iff_ne];omega
    clear hch ho q9
    go_wp2_with (fail)
    go_ret2
    exact⟨Aa q6,Aa qe⟩
  ·have qb:¬ (k:Int)<(N:Int):=by omega
   have q6:=Ab (show ∀a,KI F wr a d'->Out F R (.returned (.tuple #[a,.int .i64 0])) wr from fun a ha=>by
    rw[Aa qf,show Ak d l=Ak d' (l.drop k) from q7,List.drop_eq_nil_of_le (by have:=Aa HN;omega)];exact⟨_,rfl,ha⟩)
   clear q7 hb q0
   go_wp2_with (fail)
   go_ret2
   exact⟨Aa q6 _ (Aa q8),Aa HB⟩
def aV(l:By):Option UInt8:=match l with
 | 126::48::_=>some 126
 | 126::49::_=>some 47
 | _=>none
theorem EN{B:Nat}{a:A4}(h:A3 B a w)(q:Nat):A3 B a (w.drewN q):=⟨h.os,h.tape,h.output,h.size,h.block⟩
theorem Er.below{w':A4}{B:Nat}(h:Er w)(hb:A3 B w w')(hB:4<B):Er w':=by
 obtain⟨t,fr,e⟩:=h;exact⟨t,fr,(hb.block _ hB).trans e⟩
theorem Er.kept{w':A4}(h:Er w)(hb:A3 w.heap.size w w'):Er w':=by
 refine h.below hb ?_;obtain⟨t,fr,e⟩:=h;exact (A2.1 e).1
theorem Xq(w:A4):(Bs 256 (.agg EE) (.int .i64 0)).run AS w=.ok (.agg #[.string ⟨#[126,48]⟩,.int .u8 126]) w:=by kernel_rfl
theorem Xp(w:A4):(Bs 256 (.agg EE) (.int .i64 1)).run AS w=.ok (.agg #[.string ⟨#[126,49]⟩,.int .u8 47]) w:=by kernel_rfl
theorem IQ(l:By)(p:ByteArray)(w:A4):BY AS 194 #[.string ⟨l.toArray⟩,.string p] w fun e w'=>e=.returned (.bool (AI l p.data.toList))/\w'=w:=Tryz.strings_HasPrefix ⟨l.toArray⟩ p w
theorem Yo(h:AI l [126,48]=true):aV l=some 126:=by
 match l,h with
 | [],h=>cases h
 | [a],h=>simp[AI] at h
 | a::b::r,h=>
  simp[AI] at h;rw[<- h.1,<- h.2];rfl
theorem Yn(h:AI l [126,49]=true):aV l=some 47:=by
 match l,h with
 | [],h=>cases h
 | [a],h=>simp[AI] at h
 | a::b::r,h=>
  simp[AI] at h;rw[<- h.1,<- h.2];rfl
theorem Xo(h:AI l [126,48]=false)(h1:AI l [126,49]=false):aV l=none:=by
 match l,h,h1 with
 | [],_,_=>rfl
 | [a],_,_=>unfold aV;split<;>simp_all
 | a::b::r,h,h1=>
  unfold aV;split
  ·rename_i e;injection e with e1 e2;injection e2 with e2 _;subst e1;subst e2;simp[AI] at h
  ·rename_i e;injection e with e1 e2;injection e2 with e2 _;subst e1;subst e2;simp[AI] at h1
  ·rfl
def Ei(j:Nat):ByteArray:=if j=0 then ⟨#[126,48]⟩ else ⟨#[126,49]⟩
def DH(j:Nat):Int:=if j=0 then 126 else 47
theorem OV(j:Nat)(hj:j<2)(w:A4):(Bs 256 (.agg EE) (.int .i64 j)).run AS w=.ok (.agg #[.string (Ei j),.int .u8 (DH j)]) w:=by
 match j,hj with
 | 0,_=>exact Xq w
 | 1,_=>exact Xp w
theorem K7(j:Nat)(hj:j<2):(Ei j).size=2:=by
 match j,hj with
 | 0,_=>rfl
 | 1,_=>rfl
def PSt(l:By)(j:Nat):Prop:=(1<=j->AI l [126,48]=false)/\(2<=j->AI l [126,49]=false)
theorem PSt.step{j:Nat}(hj:j<2)(h:PSt l j)(hh:AI l (Ei j).data.toList=false):PSt l (j+1):=by
 match j,hj with
 | 0,_=>exact⟨fun _=>hh,fun h=>absurd h (by omega)⟩
 | 1,_=>exact⟨fun _=>h.1 (by omega),fun _=>hh⟩
def MG(o:Option UInt8):A6:=match o with
 | none=>.tuple #[.int .u8 0,.int .i64 0]
 | some c=>.tuple #[.int .u8 c.toNat,.int .i64 2]
theorem VY{j:Nat}(hj:j<2)(_:PSt l j)(hh:AI l (Ei j).data.toList=true):MG (aV l)=.tuple #[.int .u8 (DH j),.int .i64 2]:=by
 match j,hj with
 | 0,_=>rw[Yo hh];rfl
 | 1,_=>rw[Yn hh];rfl
theorem N9(l:By)(w:A4)(hT:Er w):
  BY AS 146 #[.string ⟨l.toArray⟩] w fun e w'=>e=.returned (MG (aV l))/\A3 w.heap.size w w':=by
 obtain⟨R,hR⟩:∃R,R=MG (aV l):=⟨_,rfl⟩
 rw[<- hR];have HR:=Ab hR;have q8:=fun w1=>IQ l ⟨#[126,48]⟩ w1;have q5:=fun w1=>IQ l ⟨#[126,49]⟩ w1;have qf:=Ab q8;have qg:=Ab q5;have hlt:4<w.heap.size:=by obtain⟨t,fr,e⟩:=hT;exact (A2.1 e).1
 obtain⟨tt,fz,q7⟩:=hT;clear hR q8 q5
 go_enter func146,ntmps146
 go_wp2_with (refine wpList_load_row rfl 256 _ rfl 4 rfl tt _ fz _ q7 underlying256 rfl (by kernel_rfl) ?_)
 clear q7
 go_loopw [7] (fun i wr=>∃j:Nat,j<=2/\i=.int .i64 j/\A3 w.heap.size w wr/\Hid (PSt l j)) (fun i _=>2-(intOf i).toNat)
 case atStart=>exact⟨0,by omega,rfl,A1 _ _,fun h=>absurd h (by omega),fun h=>absurd h (by omega)⟩
 case round=>
  obtain⟨j,hj,rfl,hb,q6⟩:=hrel;have HB:=Ab hb;have HS:=Ab (Aa q6);have hsz:=hb.size;clear hb q6;by_cases h2:j=2
  ·subst h2;have HV:=Ab (show R=.tuple #[.int .u8 0,.int .i64 0] by rw[Aa HR,Xo ((Aa HS).1 (by omega)) ((Aa HS).2 (by omega))];rfl)
   go_wp2_with (fail)
   go_ret2
   exact⟨by rw[Aa HV];rfl,Aa HB⟩
  ·have q4:j<2:=by omega
   have qb:(j:Int)<2:=by omega
   have qd:=fun w1=>OV j q4 w1;have q0:=Ab (fun w1=>IQ l (Ei j) w1);have q9:=K7 j q4;cases hh:AI l (Ei j).data.toList with
   | true=>
    have HV:=Ab (show R=.tuple #[.int .u8 (DH j),.int .i64 2] by rw[Aa HR];exact VY q4 (Aa HS) hh);rw[hh] at q0;clear hh;generalize Ei j=pk at *;generalize DH j=pb at *
    go_wp2_with (fail);refine (Aa q0 _).mono ?_
    rintro e w2 ⟨rfl,rfl⟩
    go_wp2_with (fail)
    go_quiet (fail)
    go_wp2_with (fail)
    go_ret2
    exact⟨by rw[Aa HV];first|rfl|(congr;simp[q9]),EN ((Aa HB).alloc hsz _) _⟩
   | false=>
    have qe:=Ab ((Aa HS).step q4 hh);rw[hh] at q0;clear hh;generalize Ei j=pk at *;generalize DH j=pb at *
    go_wp2_with (fail);refine (Aa q0 _).mono ?_
    rintro e w2 ⟨rfl,rfl⟩
    go_wp2_with (fail)
    go_roundw
    case rel=>exact⟨j+1,by omega,by go_num,(Aa HB).alloc hsz _,qe⟩
    case measure=>simp[intOf];omega
theorem X8(l:By):(Z0 l).length<=l.length:=(List.takeWhile_sublist _).length_le
theorem Pa:∀l:By,(AT l [126] = -1/\Z0 l=l)\/(AT l [126]=(Z0 l).length /\ ∃r,l=Z0 l++126::r)
 | []=>CH ⟨rfl,rfl⟩
 | b::l=>by
  by_cases hb:b=126
  ·subst hb;exact Or.inr ⟨by rfl,l,by rfl⟩
  ·have h1:Z0 (b::l)=b::Z0 l:=by simp[Z0,hb]
   have h2:AT (b::l) [126]=if AT l [126]==-1 then -1 else AT l [126]+1:=by
    grind [Z0,AT,List.isPrefixOf]
   rw[h1,h2];rcases Pa l with⟨e1,e2⟩|⟨e1,r,e2⟩
   ·grind
   grind
theorem XX(h:AT l [126] = -1):CD l [126]=(l,[],false):=by
 unfold CD;rw[h];rfl
theorem WU{r:By}(h:AT l [126]=(Z0 l).length)(e:l=Z0 l++126::r):CD l [126]=(Z0 l,r,true):=by
 unfold CD;rw[h,if_pos (by omega)];simp only[Int.toNat_natCast];have e1:l.take (Z0 l).length=Z0 l:=by
  grind
 have e2:l.drop ((Z0 l).length+[(126:UInt8)].length)=r:=by
  have h1:(Z0 l++126::r).drop ((Z0 l).length+1)=r:=by
   rw[<- List.drop_drop,List.drop_left' rfl];rfl
  grind
 rw[e1,e2]
theorem G6:∀ {p:By} (r:By),(∀c∈p,c≠126)->ZA (p++r)=(ZA r).map (p ++ ·)
 | [],r,_=>by simp
 | c::p,r,h=>by
  rw[List.cons_append,F6,if_neg (h c (by simp)),G6 r (fun d hd=>h d (by simp[hd]))];cases ZA r<;>rfl
theorem Pu(l:By):∀c∈Z0 l,c≠126:=by
 induction l with
 | nil=>intro c hc;cases hc
 | cons b l ih=>
  intro c hc;by_cases hb:b=126
  ·subst hb;simp[Z0] at hc
  ·have h1:Z0 (b::l)=b::Z0 l:=by simp[Z0,hb]
   grind
theorem Xc(h:Z0 l=l):ZA l=some l:=by
 have:=G6 (p:=l) [] (by rw[<- h];exact Pu l);rw[List.append_nil] at this;rw[this];simp[ZA]
theorem Vy(r:By):ZA (126::r)=match aV (126::r) with
 | none=>none
 | some c=>(ZA ((126::r).drop 2)).map (c :: ·):=by
 rw[F6,if_pos rfl]
 match r with
 | []=>rfl
 | b::q=>
  by_cases h0:b=48
  ·subst h0;rfl
  ·by_cases h1:b=49
   ·subst h1;rfl
   ·have e:aV (126::b::q)=none:=by
     unfold aV
     grind
    grind
def dV(c:UInt8):Prop:=33<=c.toNat/\c.toNat≠34/\c.toNat≠92
end Go.Proofs.YtdpomdelmdofmaaGreatDoor
