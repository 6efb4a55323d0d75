import Derived.Test.YtdpomdelmdofmaaGreatDoorRea14
open Go.Proofs.Tryz renaming prog->AI
open Go.RowKit renaming Below->AS
open Go renaming World->AT,Value->A3,wpList_lookup_own_ok->A4,Calls->Bs,maxLen->C1
open Go.RowKit.Below renaming refl->A1
open Go.Lib renaming parseUint10->A2,trimS->A5,atoiAll->CH,atoiSat->CL
open List renaming dropWhile_cons->A6,cons_ne_nil->BY,all_cons->CR
open Nat renaming le_refl->CD
open Go.Calls renaming mono->C2
open Or renaming inr->Dp
set_option maxHeartbeats 8000000
set_option maxRecDepth 100000
namespace Go.Proofs.YtdpomdelmdofmaaGreatDoor
open Go.Proofs.Tryz Go.RowKit Go.Maps
variable{n f:Nat}{v sl:A3}{es:List To}{w':AT}
theorem D6{w:AT}{B e:Nat}{xs:List A3}(h:w.ownsRow B e 1 v n xs):n<=C1:=by
 rcases h.2 with⟨_,h0⟩|⟨g,cap,cur,_,_,_,h4,h5,_⟩
 ·omega
 ·omega
section
variable{w:AT}{b b':Nat}
theorem VR(hS:Ga f){F F':Nat->Prop}{sl':A3}{ps q4:List A3}{es':List To}(h:VB w b 5 n0 [] sl (.map none))(h':VB w b' 5 n0 [] sl' (.map none))(ho:w.ownsRow 0 80 1 sl ps.length ps)(q0:w.ownsRow 0 80 1 sl' q4.length q4)(ha:Al (Rep f F w) ps es)(q5:Al (Rep f F' w) q4 es'):
  Bs AI 82 #[.pointer (some ⟨b,0,none⟩),.pointer (some ⟨b',0,none⟩)] w fun e w'=>e=.returned (.bool (veq (Af es) (Af es')))/\AS w.heap.size w w':=by
 have c0:=h.c0;have d0:=h'.c0;have c5:=h.c5;have d5:=h'.c5;have hc:=Ab (show ∀w1:AT,AS w.heap.size w w1->Bs AI 112 #[sl,sl',.func (.func 82) #[] #[]] w1 fun e w'=>e=.returned (.bool (veq (Af es) (Af es')))/\AS w1.heap.size w1 w' from fun w1 hb=>
  Y9 hS (Be ho (fun g hg=>hb.block g (Ay ho g hg).1)) (Be q0 (fun g hg=>hb.block g (Ay q0 g hg).1)) (ha.mono fun _ _ h=>h.bel hb) (q5.mono fun _ _ h=>h.bel hb) (D6 ho) (D6 q0))
 clear h h' ho q0 ha q5 hS;generalize veq (Af es) (Af es')=r at *
 go_enter func82,ntmps82
 go_wp2_with (fail)
 go_quiet (fail)
 go_wp2_with (fail)
 go_region_with (go_at_call 112;refine (Aa hc _ ?_).mono ?_;exact⟨rfl,rfl,rfl,CD _,fun _ _=>rfl⟩;rintro e w2 ⟨rfl,hb⟩)
 all_goals (
  replace hb:AS w.heap.size w w2:=⟨hb.os,hb.tape,hb.output,hb.size,hb.block⟩
  go_wp2_with (fail)
  go_ret;exact⟨rfl,hb⟩)
theorem VP(hS:Ga f){F F':Nat->Prop}{m m' n':Nat}{D D':List (Lit×DataW A3)}{es es':List (Lit×To)}(h:VB w b 6 n0 [] (.slice none 0 0) (.map (some m)))(h':VB w b' 6 n0 [] (.slice none 0 0) (.map (some m')))(ho:w.ownsMap AI 9 RV m n (.map D))(q0:w.ownsMap AI 9 RV m' n' (.map D'))(hp:Pt (Rep f F w) D es)(q4:Pt (Rep f F' w) D' es'):
  Bs AI 82 #[.pointer (some ⟨b,0,none⟩),.pointer (some ⟨b',0,none⟩)] w fun e w'=>e=.returned (.bool (veq (Ap es) (Ap es')))/\AS w.heap.size w w':=by
 have c0:=h.c0;have d0:=h'.c0;have c6:=h.c6;have d6:=h'.c6;have hc:=Ab (show ∀w1:AT,AS w.heap.size w w1->Bs AI 113 #[.map (some m),.map (some m'),.func (.func 82) #[] #[]] w1 fun e w'=>e=.returned (.bool (veq (Ap es) (Ap es')))/\AS w1.heap.size w1 w' from fun w1 hb=>
  Za hS (An ho (hb.block m (Bg ho))) (An q0 (hb.block m' (Bg q0))) (hp.mono fun _ _ h=>h.bel hb) (q4.mono fun _ _ h=>h.bel hb))
 clear h h' ho q0 hp q4 hS;generalize veq (Ap es) (Ap es')=r at *
 go_enter func82,ntmps82
 go_wp2_with (fail)
 go_quiet (fail)
 go_wp2_with (fail)
 go_region_with (go_at_call 113;refine (Aa hc _ ?_).mono ?_;exact⟨rfl,rfl,rfl,CD _,fun _ _=>rfl⟩;rintro e w2 ⟨rfl,hb⟩)
 all_goals (
  replace hb:AS w.heap.size w w2:=⟨hb.os,hb.tape,hb.output,hb.size,hb.block⟩
  go_wp2_with (fail)
  go_ret;exact⟨rfl,hb⟩)
end
theorem VD{n n':Nm}(h:Bd n=Bd n'):n=n':=by
 grind [Bd,DataW.agg.injEq,List.cons.injEq]
theorem XX(n n':Nm):veq (Bd n) (Bd n')=decide (n=n'):=by
 by_cases h:n=n'
 ·rw[EV (by rw[h]),decide_eq_true h]
 ·rw[Ep (fun e=>h (VD e)),decide_eq_false h]
theorem XW(s s':By):veq (Ao s) (Ao s')=(s==s'):=by
 by_cases h:s=s'
 ·rw[EV (by rw[h]),beq_iff_eq.2 h]
 ·rw[Ep (fun e=>h (by unfold Ao at e;grind)),beq_eq_false_iff_ne.2 h]
theorem Tp(hS:Ga f):Ga (f+1):=by
 intro F F' w v v' a b ha hb;obtain⟨p,rfl,_,ha⟩:=ha;obtain⟨p',rfl,_,hb⟩:=hb;rcases ha with⟨k,hk,rfl,h⟩|⟨n,rfl,h,_⟩|⟨s,rfl,h⟩|⟨es,sl,ps,rfl,h,ho,_,hal⟩|⟨es,m,n,D,rfl,h,_,ho,hp⟩ <;>
  rcases hb with⟨k',q6,rfl,h'⟩|⟨n',rfl,h',_⟩|⟨s',rfl,h'⟩|⟨es',sl',q7,rfl,h',q4,_,q0⟩|⟨es',m',n',D',rfl,h',_,q4,q5⟩
 case inl.inl=>
  by_cases e:k=k'
  ·subst e;rw[EV rfl];exact Tn hk h h'
  ·rw[Ep (fun e1=>e (by grind [AF,Bd,Ao]))];exact Ma h h' (by omega)
 case inr.inl.inr.inl=>rw[XX];exact VQ h h'
 case inr.inr.inl.inr.inr.inl=>rw[XW];exact VO h h'
 case inr.inr.inr.inl.inr.inr.inr.inl=>exact VR hS h h' ho q4 hal q0
 case inr.inr.inr.inr.inr.inr.inr.inr=>exact VP hS h h' ho q4 hp q5
 all_goals (
  rw[Ep (by intro e;simp[AF,Bd,Ao,Af,Ap] at e)];exact Ma h h' (by omega))
theorem ES:∀f,Ga f
 | 0=>fun _ _ _ _ _ _ _ h=>h.elim
 | f+1=>Tp (ES f)
theorem Gp{α:Type}(p:α->Bool):∀ {l:List α},l.dropWhile p=[]<->l.all p=true
 | []=>by simp
 | a::r=>by
  rw[A6,CR];cases h:p a
  ·simp
  ·simp only[if_true,Bool.true_and];exact Gp p
theorem K5{α:Type}(p:α->Bool):∀ {l:List α} {a:α} {r:List α},l.dropWhile p=a::r->p a=false
 | [],_,_,h=>by cases h
 | b::s,a,r,h=>by
  rw[A6] at h;cases hb:p b
  ·grind
  ·rw[hb] at h;simp only[if_true] at h;exact K5 p h
theorem L5(l cs:List UInt8):A5 l cs=[]<->l.all (cs.contains ·)=true:=by
 have h1:A5 l cs=((l.reverse.dropWhile (cs.contains ·)).reverse).dropWhile (cs.contains ·):=rfl
 rw[h1];constructor
 ·intro h;have h2:=(Gp _).1 h;cases hd:l.reverse.dropWhile (cs.contains ·) with
  | nil=>
   have h3:=(Gp _).1 hd
   grind
  | cons a r=>
   have h4:=K5 _ hd
   grind
 ·intro h;have h3:l.reverse.dropWhile (cs.contains ·)=[]:=(Gp _).2 (by grind)
  simp_all
theorem Mi:∀ (l:By) (q0:Nat),q0<18446744073709551616->l.all (gS.contains ·)=true ->
  (A2 q0 l=.ok (gF q0 l)/\gF q0 l<18446744073709551616)\/(A2 q0 l=.range/\18446744073709551616<=gF q0 l)
 | [],q0,ha,_=>Or.inl ⟨rfl,ha⟩
 | c::r,q0,ha,h=>by
  rw[CR,Bool.and_eq_true] at h;obtain⟨hc,hr⟩:=h;obtain⟨c1,c2⟩:=QZ c hc;have q4:gF q0 (c::r)=gF (q0*10+(c.toNat-48)) r:=rfl;rw[q4];have q5:∀ (l:By) (a:Nat),a<=gF a l:=by
   intro l;induction l with
   | nil=>intro a;exact CD _
   | cons d s ih=>intro a;exact Nat.le_trans (by omega) (ih (a*10+(d.toNat-48)))
  have h0:=q5 r (q0*10+(c.toNat-48));simp only[A2];rw[if_pos (by omega)];split
  ·grind
  ·split
   ·grind
   ·exact Mi r _ (by omega) hr
theorem P7{t:By}(hne:t≠[])(h:t.all (gS.contains ·)=true):
  (CH t=.ok (gF 0 t:Nat)/\gF 0 t<9223372036854775808)\/(CH t=.range/\CL t=9223372036854775807/\9223372036854775808<=gF 0 t):=by
 cases t with
 | nil=>grind
 | cons c r=>
  have hc:gS.contains c=true:=by grind
  obtain⟨c1,c2⟩:=QZ c hc;have n1:¬ (c.toNat=43\/c.toNat=45):=by omega
  have n2:¬ (c.toNat=45):=by omega
  have hs:CL (c::r)=9223372036854775807:=by
   unfold CL
   grind
  have hp:=Mi (c::r) 0 (by omega) h;unfold CH;simp only[if_neg n1,Lib.parseMag,if_neg (BY c r)]
  grind
theorem VG(t:By)(w:AT)(h:t.length<=1048576):
  Bs AI 195 #[.string ⟨t.toArray⟩,.string ⟨#[48,49,50,51,52,53,54,55,56,57]⟩] w fun e w'=>e=.returned (.string ⟨(A5 t gS).toArray⟩)/\AS w.heap.size w w':=
 Any.strings_Trim_laid Tryz.lays160 (by kernel_rfl) ⟨t.toArray⟩ ⟨#[48,49,50,51,52,53,54,55,56,57]⟩ w (by rw[Bc];omega) (by decide) (ascii_of_all (by decide))
theorem Rng.kept{w:AT}(h:Rng w)(hb:AS w.heap.size w w'):Rng w':=by
 obtain⟨ev,h1,h2⟩:=h;refine⟨ev,?_,h2⟩;have:9<w.heap.size:=Lib.lt_of_cell h1;exact (hb.cell (p:=⟨9,0,none⟩) this).trans h1
theorem Xv(t:By)(w:AT)(h:t.length<=1048576)(hne:t≠[])(hd:t.all (gS.contains ·)=true)(hr:Rng w):
  Bs AI 196 #[.string ⟨t.toArray⟩] w fun e w'=>∃x,e=.returned (.tuple #[.int .i64 (min (gF 0 t) 9223372036854775807:Nat),x])/\AS w.heap.size w w':=by
 obtain⟨ev,hv,q0⟩:=hr;rcases P7 hne hd with⟨h1,h2⟩|⟨h1,h2,h3⟩
 ·have hm:min (gF 0 t) 9223372036854775807=gF 0 t:=by omega
  rw[hm];refine C2 (Any.strconv_Atoi_ok Tryz.laysC172 ⟨t.toArray⟩ (by rw[Bc];omega) (gF 0 t:Nat) h1 w) ?_;rintro e w' ⟨rfl,hw⟩;refine⟨_,rfl,?_⟩;rcases hw with rfl|⟨x,rfl⟩
  ·exact A1 _ _
  ·exact Lib.bytesWorld_below _ _ _
 ·have hm:min (gF 0 t) 9223372036854775807=9223372036854775807:=by omega
  rw[hm];refine C2 (Any.strconv_Atoi_range Tryz.laysC172 ⟨t.toArray⟩ (by rw[Bc];omega) h1 ev w hv q0) ?_
  grind
theorem XH{X:ByteArray}(h:X.size=0):X.toList.isEmpty=true:=by
 simp_all
theorem bY{X:ByteArray}(h:0<X.size):X.toList.isEmpty=false:=by
 rw[ByteArray.toList_eq];have:=Lib.size_eq X
 grind
def Fm(o:Option Nat):A3:=match o with
 | none=>.tuple #[.int .i64 0,.bool false]
 | some n=>.tuple #[.int .i64 n,.bool true]
theorem Gs(t:By)(w:AT)(h:t.length<=1048576)(hr:Rng w):
  Bs AI 147 #[.string ⟨t.toArray⟩] w fun e w'=>e=.returned (Fm (eZ t))/\AS w.heap.size w w':=by
 match t,h with
 | [],_=>
  rw[JX (Or.inl rfl)];have e1:=XH (X:=⟨([]:By).toArray⟩) rfl;have e2:¬ (1:Int)<((⟨([]:By).toArray⟩:ByteArray).size:Int):=by decide
  go_enter func147,ntmps147
  go_wp2_with (fail)
  go_ret2
  exact⟨rfl,A1 _ _⟩
 | c::r,h=>
  have hsz:(⟨(c::r).toArray⟩:ByteArray).size=r.length+1:=by rfl
  obtain⟨X,hX⟩:∃X:ByteArray,X=⟨(c::r).toArray⟩:=⟨_,rfl⟩
  have e1:=bY (X:=X) (by grind);have q0:0<X.size:=by grind
  have hg:X[0]'q0=c:=by subst hX;rfl
  rw[<- hX];rw[<- hX] at hsz;by_cases hn:1<(c::r).length/\c=48
  ·rw[JX (by grind)];have e2:(1:Int)<(X.size:Int):=by grind
   have e3:X[0]'q0=48:=by grind
   clear h hX hg
   go_enter func147,ntmps147
   go_wp2_with (fail)
   go_ret2
   exact⟨rfl,A1 _ _⟩
  ·have hno:((decide ((1:Int)<(X.size:Int))) && (decide (X[0]'q0=48)))=false:=by
    grind
   have ht:=Ab (VG (c::r) w h);have hx:¬ (1:Int)<(X.size:Int)\/((1:Int)<(X.size:Int) /\ ¬ ((X[0]'q0).toNat:Int)=48):=by
    by_cases h1:(1:Int)<(X.size:Int)
    ·refine Dp ⟨h1,fun e=>?_⟩;have e9:X[0]'q0=48:=UInt8.toNat_inj.1 (by grind)
     grind
    omega
   clear hno hg;by_cases hd:(c::r).all (gS.contains ·)=true
   ·have hne:c::r≠[]:=BY _ _;have hi:eZ (c::r)=some (min (gF 0 (c::r)) 9223372036854775807):=OK (by
     grind)
    rw[hi];have q4:=Ab (fun w2 (hb:AS w.heap.size w w2)=>Xv (c::r) w2 h hne hd (hr.kept hb));rw[(L5 _ _).2 hd] at ht;have e4:=XH (X:=⟨([]:By).toArray⟩) rfl;generalize min (gF 0 (c::r)) 9223372036854775807=nn at *;rw[<- hX] at ht q4
    clear hX hd hne h hn hsz hi hr;rcases hx with h1|⟨h1,h2⟩;all_goals (
     go_enter func147,ntmps147
     go_wp2_with (fail);refine (Aa ht).mono ?_
     rintro e w2 ⟨rfl,hb⟩;have q6:=Ab (Aa q4 w2 hb);have HB:=Ab hb;clear q4 hb
     go_wp2_with (fail);refine (Aa q6).mono ?_
     rintro e w3 ⟨x,rfl,hb3⟩
     go_wp2_with (fail)
     go_ret2
     exact⟨rfl,(Aa HB).trans (hb3.mono (Aa HB).size)⟩)
   ·have q5:(c::r).all (gS.contains ·)=false:=by grind
    rw[JX (Dp (Dp q5))];have hne:A5 (c::r) gS≠[]:=fun e=>hd ((L5 _ _).1 e);generalize A5 (c::r) gS=Y at *;have e4:Y.isEmpty=false:=by grind
    rw[<- hX] at ht;clear hX hd q5 hne h hn hsz hr;rcases hx with h1|⟨h1,h2⟩;all_goals (
     go_enter func147,ntmps147
     go_wp2_with (fail);refine (Aa ht).mono ?_
     rintro e w2 ⟨rfl,hb⟩
     go_wp2_with (fail)
     go_ret2
     exact⟨rfl,hb⟩)
def H7(F:Nat->Prop)(w:AT)(v:A3)(d:To):Prop:=∃f,Rep f F w v d
theorem H7.bel{F:Nat->Prop}{w:AT}{d:To}(h:H7 F w v d)(hb:AS w.heap.size w w'):H7 F w' v d:=h.imp fun _ h=>h.bel hb
def Out(F:Nat->Prop)(r:Except Nat To)(e:Ending)(w':AT):Prop:=match r with
 | .ok d=>∃v,e=.returned (.tuple #[v,.int .i64 0])/\H7 F w' v d
 | .error c=>e=.returned (.tuple #[.pointer none,.int .i64 c])
theorem ED(s:By)(h:s.length<=1048576):keyOf AI 9 (.string ⟨s.toArray⟩)=some (.string s):=by
 have:=Go.WideMaps.keyOf_string_mk underlying9 (s:=⟨s.toArray⟩) (by rw[Bc];unfold C1;omega);omega
section
variable{w:AT}{b:Nat}{F:Nat->Prop}{t:By}
theorem DI{k:Nat}(hk:k<5){n:Nm}{s:By}{mp:A3}(h:VB w b k n s sl mp):
  Bs AI 111 #[.pointer (some ⟨b,0,none⟩),.string ⟨t.toArray⟩] w fun e w'=>e=.returned (.tuple #[.pointer none,.int .i64 11])/\AS w.heap.size w w':=by
 have c0:=h.c0;clear h;have e5:((k:Int)==5)=false:=by grind
 have e6:((k:Int)==6)=false:=by grind
 go_enter func111,ntmps111
 go_wp2_with (fail)
 go_ret2
 exact⟨rfl,A1 _ _⟩
theorem Ve{m:Nat}{D:List (Lit×DataW A3)}{es:List (Lit×To)}(ht:t.length<=1048576)(h:VB w b 6 n0 [] (.slice none 0 0) (.map (some m)))(ho:w.ownsMap AI 9 RV m n (.map D))(hp:Pt (Rep f F w) D es):
  Bs AI 111 #[.pointer (some ⟨b,0,none⟩),.string ⟨t.toArray⟩] w fun e w'=>Out F (Aq (Ap es) t) e w'/\AS w.heap.size w w':=by
 have q7:=Ab BE;have q8:=Ab (fun w=>B3 w);have c0:=h.c0;have c6:=h.c6;have q6:=Ab (ED t ht);have HH:=hp.has (.string t);obtain⟨R,hR⟩:∃R,R=Aq (Ap es) t:=⟨_,rfl⟩
 rw[<- hR];unfold Aq Ap at hR;simp only at hR;cases hh:Maps.has (.map D:DataW A3) (.string t) with
 | false=>
  rw[hh] at HH;rw[<- HH,if_neg (by decide)] at hR;have q0:=Ab (show Out F R (.returned (.tuple #[.pointer none,.int .i64 11])) w by rw[hR];rfl);have HO:=Ab ho;have q4:=Ab hh;clear hp h hR ho hh HH
  go_enter func111,ntmps111
  go_wp2_with (first|(at_lookup;refine A4 _ rfl _ _ 109 rfl 9 80 (Aa q7) underlying109 RV (Aa q8 _) (.held (.pointer none)) [] rfl m n (.map D) rfl (Aa HO) _ _ rfl (Aa q6) ?_;intro v2 qb q9;rw[Aa q4]))
  go_ret2
  exact⟨Aa q0,A1 _ _⟩
 | true=>
  rw[hh] at HH;rw[<- HH,if_pos rfl] at hR;obtain⟨x,e4,q5⟩:=hp.at (.string t) hh;have q0:=Ab (show Out F R (.returned (.tuple #[x,.int .i64 0])) w by rw[hR];exact⟨_,rfl,_,q5⟩);have HO:=Ab ho;have q4:=Ab hh;clear hp h hR ho hh HH
  go_enter func111,ntmps111
  go_wp2_with (first|(at_lookup;refine A4 _ rfl _ _ 109 rfl 9 80 (Aa q7) underlying109 RV (Aa q8 _) (.held (.pointer none)) [] rfl m n (.map D) rfl (Aa HO) _ _ rfl (Aa q6) ?_;intro v2 qb q9;rw[Aa q4];obtain⟨rfl,_⟩:=Cg q9 (e4 _)))
  go_ret2
  exact⟨Aa q0,A1 _ _⟩
theorem GV(h:eZ t=none):Aq (Af es) t=.error 12:=by unfold Aq Af;simp only[h]
theorem IY{i:Nat}(h:eZ t=some i)(hi:i<es.length):Aq (Af es) t=.ok es[i]:=by unfold Aq Af;simp only[h,List.getElem?_eq_getElem hi]
theorem Ii{i:Nat}(h:eZ t=some i)(hi:¬ i<es.length):Aq (Af es) t=.error 11:=by unfold Aq Af;simp only[h,List.getElem?_eq_none (Nat.le_of_not_lt hi)]
theorem IZ{ps:List A3}(ht:t.length<=1048576)(hr:Rng w)(h:VB w b 5 n0 [] sl (.map none))(ho:w.ownsRow 0 80 1 sl ps.length ps)(ha:Al (Rep f F w) ps es):
  Bs AI 111 #[.pointer (some ⟨b,0,none⟩),.string ⟨t.toArray⟩] w fun e w'=>Out F (Aq (Af es) t) e w'/\AS w.heap.size w w':=by
 have c0:=h.c0;have c5:=h.c5;have q7:=h.lt;have hal:=ha.length;have hI:=Ab (Gs t w ht hr);obtain⟨N,hN⟩:∃N,N=ps.length:=⟨_,rfl⟩
 obtain⟨R,hR⟩:∃R,R=Aq (Af es) t:=⟨_,rfl⟩
 rw[<- hR];have q6:=D6 ho;cases hi:eZ t with
 | none=>
  have q0:=Ab (fun w'=>show Out F R (.returned (.tuple #[.pointer none,.int .i64 12])) w' by rw[hR,GV hi];rfl);rw[hi] at hI;clear ho ha h hR hal hr hi q6 c5
  go_enter func111,ntmps111
  go_wp2_with (fail);refine (Aa hI).mono ?_
  rintro e w2 ⟨rfl,hb⟩;unfold Fm
  go_wp2_with (fail)
  go_ret2
  exact⟨Aa q0 _,hb⟩
 | some i=>
  rw[hi] at hI;by_cases hin:i<ps.length
  ·obtain⟨g,cap,rfl,a1,a2,a3,hc⟩:=Bm ho (by omega);have q0:=Ab (fun w' (hb:AS w.heap.size w w')=>show Out F R (.returned (.tuple #[ps[i],.int .i64 0])) w' by
    rw[hR,IY hi (by omega)];exact⟨_,rfl,f,(ha.get i hin (by omega)).bel hb⟩)
   have q8:=hc i hin;have q9:(N:Int)<=9223372036854775807:=by unfold C1 at q6;omega
   have hlt:(i:Int)<(N:Int):=by omega
   generalize ps[i]=pv at *;have HC:=Ab q8;have q4:=Ab c5;rw[<- hN] at c5 a1;have q4:=Ab c5;clear ho ha hR hal hr hi q6 hc q8 c5
   go_enter func111,ntmps111
   go_wp2_with (fail);refine (Aa hI).mono ?_
   rintro e w2 ⟨rfl,hb⟩;have q5:=(hb.cell (p:=⟨b,5,none⟩) q7).trans (Aa q4);have qi:=(hb.cell (p:=⟨g,i,none⟩) a3).trans (Aa HC);have HB:=Ab hb;clear hb hN hin h;unfold Fm
   go_wp2_with (fail)
   go_ret2
   exact⟨Aa q0 _ (Aa HB),Aa HB⟩
  ·have q0:=Ab (fun w'=>show Out F R (.returned (.tuple #[.pointer none,.int .i64 11])) w' by rw[hR,Ii hi (by omega)];rfl);obtain⟨g,cap,rfl⟩:=Cx ho;have hlt:¬ (i:Int)<(N:Int):=by omega
   rw[<- hN] at c5;have q4:=Ab c5;clear ho ha hR hal hr hi q6 c5
   go_enter func111,ntmps111
   go_wp2_with (fail);refine (Aa hI).mono ?_
   rintro e w2 ⟨rfl,hb⟩;have q5:=(hb.cell (p:=⟨b,5,none⟩) q7).trans (Aa q4);have HB:=Ab hb;clear hb hN hin h;unfold Fm
   go_wp2_with (fail)
   go_ret2
   exact⟨Aa q0 _,Aa HB⟩
end
theorem Vq{F:Nat->Prop}{w:AT}{d:To}{t:By}(ht:t.length<=1048576)(hr:Rng w)(h:H7 F w v d):
  Bs AI 111 #[v,.string ⟨t.toArray⟩] w fun e w'=>Out F (Aq d t) e w'/\AS w.heap.size w w':=by
 obtain⟨f,h⟩:=h;cases f with
 | zero=>exact h.elim
 | succ f=>
  obtain⟨p,rfl,_,h⟩:=h;rcases h with⟨k,hk,rfl,h⟩|⟨n,rfl,h,_⟩|⟨s,rfl,h⟩|⟨es,sl,ps,rfl,h,ho,_,hal⟩|⟨es,m,n,D,rfl,h,_,ho,hp⟩
  ·exact DI (k:=k) (by omega) h
  ·exact DI (k:=3) (by omega) h
  ·exact DI (k:=4) (by omega) h
  ·exact IZ ht hr h ho hal
  ·exact Ve ht h ho hp
def C7(w:AT)(g o:Nat)(l:List By):Prop:=g<w.heap.size /\ ∀k (hk:k<l.length),w.cell? ⟨g,o+k,none⟩=some (.string ⟨l[k].toArray⟩)
def CW(w:AT)(v:A3)(l:List By):Prop:=
 (l=[] /\ ∃a c,v=.slice a 0 c/\c<=C1) \/ ∃g o cap,v=.slice (some ⟨g,o,none⟩) l.length cap/\l.length<=cap/\cap<=C1/\C7 w g o l
theorem CW.bel{w:AT}{l:List By}(h:CW w v l)(hb:AS w.heap.size w w'):CW w' v l:=by
 rcases h with h|⟨g,o,cap,rfl,h1,h2,hg,hc⟩
 ·exact Or.inl h
 ·exact Dp ⟨g,o,cap,rfl,h1,h2,Nat.lt_of_lt_of_le hg hb.size,fun k hk=>(hb.cell (p:=⟨g,o+k,none⟩) hg).trans (hc k hk)⟩
end Go.Proofs.YtdpomdelmdofmaaGreatDoor
