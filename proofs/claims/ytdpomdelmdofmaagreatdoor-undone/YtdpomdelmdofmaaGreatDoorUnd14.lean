import Derived.Test.YtdpomdelmdofmaaGreatDoorUnd13
namespace Go.Proofs.YtdpomdelmdofmaaGreatDoor
open Go.Proofs.Tryz
section
set_option maxRecDepth 100000
set_option maxHeartbeats 8000000
open Go.RowKit
theorem Th(t:Sp.By)(w:World)(h:t.length<=1048576) :
  Calls Tryz.prog 195 #[.string ⟨t.toArray⟩,.string ⟨#[48,49,50,51,52,53,54,55,56,57]⟩] w fun e w'=>e = .returned (.string ⟨(Lib.trimS t Sp.dgs).toArray⟩)/\Below w.heap.size w w' :=
 Any.strings_Trim_laid Tryz.lays160 (by kernel_rfl) ⟨t.toArray⟩ ⟨#[48,49,50,51,52,53,54,55,56,57]⟩ w (by rw[Aw];omega) (by decide) (ascii_of_all (by decide))
theorem Rng.kept{w w':World}(h:Rng w)(hb:Below w.heap.size w w'):Rng w':=by
 obtain⟨ev,h1,h2⟩:=h;refine⟨ev,?_,h2⟩;have:9<w.heap.size:=Lib.lt_of_cell h1;exact (hb.cell (p:=⟨9,0,none⟩) this).trans h1
theorem UW(t:Sp.By)(w:World)(h:t.length<=1048576)(hne:t≠[])(hd:t.all (Sp.dgs.contains ·)=true)(hr:Rng w) :
  Calls Tryz.prog 196 #[.string ⟨t.toArray⟩] w fun e w'=>∃x,e = .returned (.tuple #[.int .i64 (min (Sp.ixf 0 t) 9223372036854775807:Nat),x])/\Below w.heap.size w w':=by
 obtain⟨ev,hv,hev⟩:=hr;rcases Oo hne hd with⟨h1,h2⟩|⟨h1,h2,h3⟩
 ·have hm:min (Sp.ixf 0 t) 9223372036854775807=Sp.ixf 0 t:=by omega
  rw[hm];refine Calls.mono (Any.strconv_Atoi_ok Tryz.laysC172 ⟨t.toArray⟩ (by rw[Aw];omega) (Sp.ixf 0 t:Nat) h1 w) ?_;rintro e w' ⟨rfl,hw⟩;refine⟨_,rfl,?_⟩;rcases hw with rfl|⟨x,rfl⟩
  ·exact Below.refl _ _
  ·exact Lib.bytesWorld_below _ _ _
 ·have hm:min (Sp.ixf 0 t) 9223372036854775807=9223372036854775807:=by omega
  rw[hm];refine Calls.mono (Any.strconv_Atoi_range Tryz.laysC172 ⟨t.toArray⟩ (by rw[Aw];omega) h1 ev w hv hev) ?_;rintro e w' ⟨N,rfl,_,_,hb⟩;rw[show Lib.atoiSat (⟨t.toArray⟩:ByteArray).data.toList=9223372036854775807 from h2];exact⟨_,rfl,hb⟩
theorem U7{X:ByteArray}(h:X.size=0):X.toList.isEmpty=true:=by
 rw[ByteArray.toList_eq,List.isEmpty_iff];exact List.eq_nil_of_length_eq_zero (by rw[<- Lib.size_eq];exact h)
theorem YD{X:ByteArray}(h:0<X.size):X.toList.isEmpty=false:=by
 rw[ByteArray.toList_eq];have:=Lib.size_eq X;cases hl:X.data.toList with
 | nil=>rw[hl,List.length_nil] at this;omega
 | cons a r=>rfl
def E8(o:Option Nat):Value:=match o with
 | none=>.tuple #[.int .i64 0,.bool false]
 | some n=>.tuple #[.int .i64 n,.bool true]
theorem FW(t:Sp.By)(w:World)(h:t.length<=1048576)(hr:Rng w) :
  Calls Tryz.prog 147 #[.string ⟨t.toArray⟩] w fun e w'=>e = .returned (E8 (Sp.idx t))/\Below w.heap.size w w':=by
 match t,h with
 | [],_ =>
  rw[Sp.Jn (Or.inl rfl)];have e1:=U7 (X:=⟨([]:Sp.By).toArray⟩) rfl;have e2:¬ (1:Int)<((⟨([]:Sp.By).toArray⟩:ByteArray).size:Int):=by decide
  go_enter func147,ntmps147
  go_wp2_with (fail)
  go_ret2
  exact⟨rfl,Below.refl _ _⟩
 | c::r,h =>
  have hsz:(⟨(c::r).toArray⟩:ByteArray).size=r.length+1:=by rw[Aw];rfl
  obtain⟨X,hX⟩:∃X:ByteArray,X=⟨(c::r).toArray⟩:=⟨_,rfl⟩
  have e1:=YD (X:=X) (by rw[hX,hsz];omega);have hlt0:0<X.size:=by rw[hX,hsz];omega
  have hg:X[0]'hlt0=c:=by subst hX;rfl
  rw[<- hX];rw[<- hX] at hsz;by_cases hn:1<(c::r).length/\c=48
  ·rw[Sp.Jn (Or.inr (Or.inl ⟨hn.1,by rw[hn.2];rfl⟩))];have e2:(1:Int)<(X.size:Int):=by have:=hn.1;simp only[List.length_cons] at this;omega
   have e3:X[0]'hlt0=48:=by rw[hg];exact hn.2
   clear h hX hg
   go_enter func147,ntmps147
   go_wp2_with (fail)
   go_ret2
   exact⟨rfl,Below.refl _ _⟩
  ·have hno:((decide ((1:Int)<(X.size:Int))) && (decide (X[0]'hlt0=48)))=false:=by
    rw[hg,hsz];cases r with
    | nil=>rfl
    | cons d q =>
     have:c≠48:=fun e=>hn ⟨by simp,e⟩;simp[this]
   have ht:=Ab (Th (c::r) w h);have hx:¬ (1:Int)<(X.size:Int)\/((1:Int)<(X.size:Int) /\ ¬ ((X[0]'hlt0).toNat:Int)=48):=by
    by_cases h1:(1:Int)<(X.size:Int)
    ·refine Or.inr ⟨h1,fun e=>?_⟩;have e9:X[0]'hlt0=48:=UInt8.toNat_inj.1 (by have:(48:UInt8).toNat=48:=rfl;omega);simp[h1,e9] at hno
    ·exact Or.inl h1
   clear hno hg;by_cases hd:(c::r).all (Sp.dgs.contains ·)=true
   ·have hne:c::r≠[]:=List.cons_ne_nil _ _;have hi:Sp.idx (c::r)=some (min (Sp.ixf 0 (c::r)) 9223372036854775807):=Sp.Nc (by
     rintro (e|⟨e1,e2⟩|e)
     ·cases e
     ·exact hn ⟨e1,by simpa using e2⟩
     ·rw[hd] at e;cases e)
    rw[hi];have hat:=Ab (fun w2 (hb:Below w.heap.size w w2)=>UW (c::r) w2 h hne hd (hr.kept hb));rw[(KV _ _).2 hd] at ht;have e4:=U7 (X:=⟨([]:Sp.By).toArray⟩) rfl;generalize min (Sp.ixf 0 (c::r)) 9223372036854775807=nn at *;rw[<- hX] at ht hat
    clear hX hd hne h hn hsz hi hr;rcases hx with h1|⟨h1,h2⟩;all_goals (
     go_enter func147,ntmps147
     go_wp2_with (fail);refine (Aa ht).mono ?_
     rintro e w2 ⟨rfl,hb⟩;have HAT:=Ab (Aa hat w2 hb);have HB:=Ab hb;clear hat hb
     go_wp2_with (fail);refine (Aa HAT).mono ?_
     rintro e w3 ⟨x,rfl,hb3⟩
     go_wp2_with (fail)
     go_ret2
     exact⟨rfl,(Aa HB).trans (hb3.mono (Aa HB).size)⟩)
   ·have hd2:(c::r).all (Sp.dgs.contains ·)=false:=by simpa using hd
    rw[Sp.Jn (Or.inr (Or.inr hd2))];have hne:Lib.trimS (c::r) Sp.dgs≠[]:=fun e=>hd ((KV _ _).1 e);generalize Lib.trimS (c::r) Sp.dgs=Y at *;have e4:Y.isEmpty=false:=by cases Y with
     | nil=>exact absurd rfl hne
     | cons _ _=>rfl
    rw[<- hX] at ht;clear hX hd hd2 hne h hn hsz hr;rcases hx with h1|⟨h1,h2⟩;all_goals (
     go_enter func147,ntmps147
     go_wp2_with (fail);refine (Aa ht).mono ?_
     rintro e w2 ⟨rfl,hb⟩
     go_wp2_with (fail)
     go_ret2
     exact⟨rfl,hb⟩)
end

section
set_option maxHeartbeats 8000000
set_option maxRecDepth 100000
open Go.RowKit Go.Maps
def KN(F:Nat->Prop)(w:World)(v:Value)(d:Sp.V):Prop:=∃f,Rep f F w v d
def Out(F:Nat->Prop)(r:Except Nat Sp.V)(e:Ending)(w':World):Prop:=match r with
 | .ok d=>∃v,e = .returned (.tuple #[v,.int .i64 0])/\KN F w' v d
 | .error c=>e = .returned (.tuple #[.pointer none,.int .i64 c])
theorem Fj(s:Sp.By)(h:s.length<=1048576):keyOf Tryz.prog 9 (.string ⟨s.toArray⟩)=some (.string s):=by
 have:=Go.WideMaps.keyOf_string_mk underlying9 (s:=⟨s.toArray⟩) (by rw[Aw];unfold maxLen;omega);simpa using this
section
variable{w:World}{b:Nat}{F:Nat->Prop}{t:Sp.By}
theorem DC{k:Nat}(hk:k<5){n:Sp.Nm}{s:Sp.By}{sl mp:Value}(h:VB w b k n s sl mp) :
  Calls Tryz.prog 111 #[.pointer (some ⟨b,0,none⟩),.string ⟨t.toArray⟩] w fun e w'=>e = .returned (.tuple #[.pointer none,.int .i64 11])/\Below w.heap.size w w':=by
 have c0:=h.c0;clear h;have e5:((k:Int) == 5)=false:=by rw[beq_eq_false_iff_ne];omega
 have e6:((k:Int) == 6)=false:=by rw[beq_eq_false_iff_ne];omega
 go_enter func111,ntmps111
 go_wp2_with (fail)
 go_ret2
 exact⟨rfl,Below.refl _ _⟩
theorem SL{f:Nat}{m n:Nat}{D:List (Lit×DataW Value)}{es:List (Lit×Sp.V)}(ht:t.length<=1048576)(h:VB w b 6 n0 [] (.slice none 0 0) (.map (some m)))(ho:w.ownsMap Tryz.prog 9 RV m n (.map D))(hp:Pt (Rep f F w) D es) :
  Calls Tryz.prog 111 #[.pointer (some ⟨b,0,none⟩),.string ⟨t.toArray⟩] w fun e w'=>Out F (Sp.Aj (Sp.Av es) t) e w'/\Below w.heap.size w w':=by
 have hml:=Ab Cd;have hmz:=Ab (fun w=>C9 w);have c0:=h.c0;have c6:=h.c6;have hkl:=Ab (Fj t ht);have HH:=hp.has (.string t);obtain⟨R,hR⟩:∃R,R=Sp.Aj (Sp.Av es) t:=⟨_,rfl⟩
 rw[<- hR];unfold Sp.Aj Sp.Av at hR;simp only at hR;cases hh:Maps.has (.map D:DataW Value) (.string t) with
 | false =>
  rw[hh] at HH;rw[<- HH,if_neg (by decide)] at hR;have HOUT:=Ab (show Out F R (.returned (.tuple #[.pointer none,.int .i64 11])) w by rw[hR];rfl);have HO:=Ab ho;have HHH:=Ab hh;clear hp h hR ho hh HH
  go_enter func111,ntmps111
  go_wp2_with (first|(at_lookup;refine wpList_lookup_own_ok _ rfl _ _ 109 rfl 9 80 (Aa hml) underlying109 RV (Aa hmz _) (.held (.pointer none)) [] rfl m n (.map D) rfl (Aa HO) _ _ rfl (Aa hkl) ?_;intro v2 ps2 hv2;rw[Aa HHH]))
  go_ret2
  exact⟨Aa HOUT,Below.refl _ _⟩
 | true =>
  rw[hh] at HH;rw[<- HH,if_pos rfl] at hR;obtain⟨x,e4,hrep⟩:=hp.at (.string t) hh;have HOUT:=Ab (show Out F R (.returned (.tuple #[x,.int .i64 0])) w by rw[hR];exact⟨_,rfl,_,hrep⟩);have HO:=Ab ho;have HHH:=Ab hh;clear hp h hR ho hh HH
  go_enter func111,ntmps111
  go_wp2_with (first|(at_lookup;refine wpList_lookup_own_ok _ rfl _ _ 109 rfl 9 80 (Aa hml) underlying109 RV (Aa hmz _) (.held (.pointer none)) [] rfl m n (.map D) rfl (Aa HO) _ _ rfl (Aa hkl) ?_;intro v2 ps2 hv2;rw[Aa HHH];obtain⟨rfl,_⟩:=Du hv2 (e4 _)))
  go_ret2
  exact⟨Aa HOUT,Below.refl _ _⟩
theorem Gr{es:List Sp.V}(h:Sp.idx t=none):Sp.Aj (Sp.Ar es) t = .error 12:=by unfold Sp.Aj Sp.Ar;simp only[h]
theorem H9{es:List Sp.V}{i:Nat}(h:Sp.idx t=some i)(hi:i<es.length):Sp.Aj (Sp.Ar es) t = .ok es[i]:=by unfold Sp.Aj Sp.Ar;simp only[h,List.getElem?_eq_getElem hi]
theorem G6{es:List Sp.V}{i:Nat}(h:Sp.idx t=some i)(hi:¬ i<es.length):Sp.Aj (Sp.Ar es) t = .error 11:=by unfold Sp.Aj Sp.Ar;simp only[h,List.getElem?_eq_none (Nat.le_of_not_lt hi)]
theorem SM{f:Nat}{sl:Value}{ps:List Value}{es:List Sp.V}(ht:t.length<=1048576)(hr:Rng w)(h:VB w b 5 n0 [] sl (.map none))(ho:w.ownsRow 0 80 1 sl ps.length ps)(ha:Al (Rep f F w) ps es) :
  Calls Tryz.prog 111 #[.pointer (some ⟨b,0,none⟩),.string ⟨t.toArray⟩] w fun e w'=>Out F (Sp.Aj (Sp.Ar es) t) e w'/\Below w.heap.size w w':=by
 have c0:=h.c0;have c5:=h.c5;have hbl:=h.lt;have hal:=ha.length;have hI:=Ab (FW t w ht hr);obtain⟨N,hN⟩:∃N,N=ps.length:=⟨_,rfl⟩
 obtain⟨R,hR⟩:∃R,R=Sp.Aj (Sp.Ar es) t:=⟨_,rfl⟩
 rw[<- hR];have hmx:=DU ho;cases hi:Sp.idx t with
 | none =>
  have HOUT:=Ab (fun w'=>show Out F R (.returned (.tuple #[.pointer none,.int .i64 12])) w' by rw[hR,Gr hi];rfl);rw[hi] at hI;clear ho ha h hR hal hr hi hmx c5
  go_enter func111,ntmps111
  go_wp2_with (fail);refine (Aa hI).mono ?_
  rintro e w2 ⟨rfl,hb⟩;unfold E8
  go_wp2_with (fail)
  go_ret2
  exact⟨Aa HOUT _,hb⟩
 | some i =>
  rw[hi] at hI;by_cases hin:i<ps.length
  ·obtain⟨g,cap,rfl,a1,a2,a3,hc⟩:=BF ho (by omega);have HOUT:=Ab (fun w' (hb:Below w.heap.size w w')=>show Out F R (.returned (.tuple #[ps[i],.int .i64 0])) w' by
    rw[hR,H9 hi (by omega)];exact⟨_,rfl,f,(ha.get i hin (by omega)).bel hb⟩)
   have hci:=hc i hin;have hn1:(N:Int)<=9223372036854775807:=by unfold maxLen at hmx;omega
   have hlt:(i:Int)<(N:Int):=by omega
   generalize ps[i]=pv at *;have HC:=Ab hci;have HC5:=Ab c5;rw[<- hN] at c5 a1;have HC5:=Ab c5;clear ho ha hR hal hr hi hmx hc hci c5
   go_enter func111,ntmps111
   go_wp2_with (fail);refine (Aa hI).mono ?_
   rintro e w2 ⟨rfl,hb⟩;have q5:=(hb.cell (p:=⟨b,5,none⟩) hbl).trans (Aa HC5);have qi:=(hb.cell (p:=⟨g,i,none⟩) a3).trans (Aa HC);have HB:=Ab hb;clear hb hN hin h;unfold E8
   go_wp2_with (fail)
   go_ret2
   exact⟨Aa HOUT _ (Aa HB),Aa HB⟩
  ·have HOUT:=Ab (fun w'=>show Out F R (.returned (.tuple #[.pointer none,.int .i64 11])) w' by rw[hR,G6 hi (by omega)];rfl);obtain⟨g,cap,rfl⟩:=Dt ho;have hlt:¬ (i:Int)<(N:Int):=by omega
   rw[<- hN] at c5;have HC5:=Ab c5;clear ho ha hR hal hr hi hmx c5
   go_enter func111,ntmps111
   go_wp2_with (fail);refine (Aa hI).mono ?_
   rintro e w2 ⟨rfl,hb⟩;have q5:=(hb.cell (p:=⟨b,5,none⟩) hbl).trans (Aa HC5);have HB:=Ab hb;clear hb hN hin h;unfold E8
   go_wp2_with (fail)
   go_ret2
   exact⟨Aa HOUT _,Aa HB⟩
end
theorem SY{F:Nat->Prop}{w:World}{v:Value}{d:Sp.V}{t:Sp.By}(ht:t.length<=1048576)(hr:Rng w)(h:KN F w v d) :
  Calls Tryz.prog 111 #[v,.string ⟨t.toArray⟩] w fun e w'=>Out F (Sp.Aj d t) e w'/\Below w.heap.size w w':=by
 obtain⟨f,h⟩:=h;cases f with
 | zero=>exact h.elim
 | succ f =>
  obtain⟨p,rfl,_,h⟩:=h;rcases h with⟨k,hk,rfl,h⟩|⟨n,rfl,h,_⟩|⟨s,rfl,h⟩|⟨es,sl,ps,rfl,h,ho,_,hal⟩|⟨es,m,n,D,rfl,h,_,ho,hp⟩
  ·exact DC (k:=k) (by omega) h
  ·exact DC (k:=3) (by omega) h
  ·exact DC (k:=4) (by omega) h
  ·exact SM ht hr h ho hal
  ·exact SL ht h ho hp
end

section
open Go.RowKit
def CX(w:World)(g o:Nat)(l:List Sp.By):Prop:=g<w.heap.size /\ ∀k (hk:k<l.length),w.cell? ⟨g,o+k,none⟩=some (.string ⟨l[k].toArray⟩)
def CQ(w:World)(v:Value)(l:List Sp.By):Prop :=
 (l=[] /\ ∃a c,v = .slice a 0 c/\c<=maxLen) \/ ∃g o cap,v = .slice (some ⟨g,o,none⟩) l.length cap/\l.length<=cap/\cap<=maxLen/\CX w g o l
theorem CQ.bel{w w':World}{v:Value}{l:List Sp.By}(h:CQ w v l)(hb:Below w.heap.size w w'):CQ w' v l:=by
 rcases h with h|⟨g,o,cap,rfl,h1,h2,hg,hc⟩
 ·exact Or.inl h
 ·exact Or.inr ⟨g,o,cap,rfl,h1,h2,Nat.lt_of_lt_of_le hg hb.size,fun k hk=>(hb.cell (p:=⟨g,o+k,none⟩) hg).trans (hc k hk)⟩
end

section
set_option maxRecDepth 100000
set_option maxHeartbeats 8000000
open Go.RowKit
theorem EZ{d:Sp.V}{t:Sp.By}{c:Nat}(h:Sp.Aj d t = .error c):c=11\/c=12:=by
 unfold Sp.Aj at h;split at h
 ·split at h
  ·cases h
  ·injection h with h;exact Or.inl h.symm
 ·split at h
  ·injection h with h;exact Or.inr h.symm
  ·split at h
   ·cases h
   ·injection h with h;exact Or.inl h.symm
 ·injection h with h;exact Or.inl h.symm
theorem NT{F:Nat->Prop}{w:World}{v pv:Value}{d:Sp.V}{l:List Sp.By}(hl:∀t∈l,t.length<=1048576)(hn:l.length<=1048576)(hr:Rng w)(h:KN F w v d)(hp:CQ w pv l) :
  Calls Tryz.prog 81 #[pv,v] w fun e w'=>Out F (Sp.Ag d l) e w'/\Below w.heap.size w w':=by
 rcases hp with⟨rfl,a,c,rfl,_⟩|⟨g,o,cap,rfl,_,_,a1,hc⟩
 ·have HH:=Ab h;clear hl hn hr h
  go_enter func81,ntmps81
  go_wp2_with (fail);refine wp_loop_rounds 1 ?_
  rw[rounds_succ]
  go_wp2_with (fail)
  go_ret2
  exact⟨⟨_,rfl,Aa HH⟩,Below.refl _ _⟩
 obtain⟨N,hN⟩:∃N,N=l.length:=⟨_,rfl⟩
 obtain⟨R,hR⟩:∃R,R=Sp.Ag d l:=⟨_,rfl⟩
 rw[<- hR,<- hN];have hn1:(N:Int)<=1048576:=by omega
 have HL:=Ab hl;have HC:=Ab hc;have HR:=Ab hr;have HH:=Ab h;have HN:=Ab hN;have HRR:=Ab hR;clear hl hc hr h hN hR hn
 go_enter func81,ntmps81
 go_wp2_with (fail)
 go_loopw [6,14] (fun a i wr=>∃ (k:Nat) (d':Sp.V),k<=N/\i = .int .i64 k/\KN F wr a d'/\Hid (Sp.Ag d l=Sp.Ag d' (l.drop k))/\Below w.heap.size w wr) (fun _ i _=>N-(intOf i).toNat)
 case atStart=>exact⟨0,d,by omega,rfl,Aa HH,rfl,Below.refl _ _⟩
 case round =>
  obtain⟨k,d',hk,rfl,hrep,heq,hb⟩:=hrel;have HB:=Ab hb;have HREP:=Ab hrep;by_cases hlt:k<N
  ·have h1:k<l.length:=by have:=Aa HN;omega
   have hdrop:l.drop k=l[k]::l.drop (k+1):=List.drop_eq_getElem_cons h1;have q:=(hb.cell (p:=⟨g,o+k,none⟩) a1).trans (Aa HC k h1);have hcall:=Ab (SY (F:=F) (t:=l[k]) (Aa HL _ (List.getElem_mem h1)) ((Aa HR).kept hb) hrep);have hlt2:(k:Int)<(N:Int):=by omega
   rw[hdrop] at heq;have HEQ:=Ab (show Sp.Ag d l=(match Sp.Aj d' l[k] with | .ok e=>Sp.Ag e (l.drop (k+1)) | .error c=>.error c) from heq);generalize l[k]=tk at *;clear heq hb hrep hdrop h1
   go_wp2_with (fail);refine (Aa hcall).mono ?_
   rintro e w2 ⟨ho,hb2⟩;have HB2:=Ab ((Aa HB).trans (hb2.mono (Aa HB).size));clear hb2 hcall q;cases hch:Sp.Aj d' tk with
   | ok d2 =>
    rw[hch] at ho;obtain⟨v2,rfl,hv2⟩:=ho;have HV2:=Ab hv2;have HE2:=Ab (show Sp.Ag d l=Sp.Ag d2 (l.drop (k+1)) by have h9:=Aa HEQ;rw[hch] at h9;exact h9);clear hv2 hch
    go_wp2_with (fail);exact⟨⟨k+1,d2,by omega,by go_num,Aa HV2,Aa HE2,Aa HB2⟩,by simp only[intOf];omega⟩
   | error c =>
    rw[hch] at ho;have ho2:e = .returned (.tuple #[.pointer none,.int .i64 c]):=ho;subst ho2;have HOUT:=Ab (show Out F R (.returned (.tuple #[.pointer none,.int .i64 c])) w2 by
     have h9:=Aa HEQ;rw[hch] at h9;rw[Aa HRR,h9];rfl)
    have hc12:=EZ hch;have e1:((c:Int) == 0)=false:=by rw[beq_eq_false_iff_ne];omega
    have e2:((c:Int) != 0)=true:=by rw[bne_iff_ne];omega
    clear hch ho hc12
    go_wp2_with (fail)
    go_ret2
    exact⟨Aa HOUT,Aa HB2⟩
  ·have hlt2:¬ (k:Int)<(N:Int):=by omega
   have HOUT:=Ab (show ∀a,KN F wr a d'->Out F R (.returned (.tuple #[a,.int .i64 0])) wr from fun a ha=>by
    rw[Aa HRR,show Sp.Ag d l=Sp.Ag d' (l.drop k) from heq,List.drop_eq_nil_of_le (by have:=Aa HN;omega)];exact⟨_,rfl,ha⟩)
   clear heq hb hrep
   go_wp2_with (fail)
   go_ret2
   exact⟨Aa HOUT _ (Aa HREP),Aa HB⟩
end

section
set_option maxRecDepth 100000
set_option maxHeartbeats 8000000
open Go.RowKit Go.Maps
def KP(P:World->Value->Sp.V->Prop)(r:Except Nat Sp.V)(e:Ending)(w':World):Prop:=match r with
 | .ok d=>∃v,e = .returned (.tuple #[v,.int .i64 0])/\P w' v d
 | .error c=>e = .returned (.tuple #[.pointer none,.int .i64 c])
section
variable{w:World}{b:Nat}{t:Sp.By}
theorem QB{m n:Nat}{D:List (Lit×DataW Value)}{R:Ending->Prop}(ht:t.length<=1048576)(h:VB w b 6 n0 [] (.slice none 0 0) (.map (some m)))(ho:w.ownsMap Tryz.prog 9 RV m n (.map D))
  (hno:Maps.has (.map D:DataW Value) (.string t)=false->R (.returned (.tuple #[.pointer none,.int .i64 11])))
  (hyes:Maps.has (.map D:DataW Value) (.string t)=true -> ∃x,(∀z,(DataW.map D).atKey (.string t) z = .held x)/\R (.returned (.tuple #[x,.int .i64 0]))) :
  Calls Tryz.prog 111 #[.pointer (some ⟨b,0,none⟩),.string ⟨t.toArray⟩] w fun e w'=>R e/\Below w.heap.size w w':=by
 have hml:=Ab Cd;have hmz:=Ab (fun w=>C9 w);have c0:=h.c0;have c6:=h.c6;have hkl:=Ab (Fj t ht);cases hh:Maps.has (.map D:DataW Value) (.string t) with
 | false =>
  have HOUT:=Ab (hno hh);have HO:=Ab ho;have HHH:=Ab hh;clear hno hyes h ho hh
  go_enter func111,ntmps111
  go_wp2_with (first|(at_lookup;refine wpList_lookup_own_ok _ rfl _ _ 109 rfl 9 80 (Aa hml) underlying109 RV (Aa hmz _) (.held (.pointer none)) [] rfl m n (.map D) rfl (Aa HO) _ _ rfl (Aa hkl) ?_;intro v2 ps2 hv2;rw[Aa HHH]))
  go_ret2
  exact⟨Aa HOUT,Below.refl _ _⟩
 | true =>
  obtain⟨x,e4,hR⟩:=hyes hh;have HOUT:=Ab hR;have HO:=Ab ho;have HHH:=Ab hh;clear hno hyes h ho hh hR
  go_enter func111,ntmps111
  go_wp2_with (first|(at_lookup;refine wpList_lookup_own_ok _ rfl _ _ 109 rfl 9 80 (Aa hml) underlying109 RV (Aa hmz _) (.held (.pointer none)) [] rfl m n (.map D) rfl (Aa HO) _ _ rfl (Aa hkl) ?_;intro v2 ps2 hv2;rw[Aa HHH];obtain⟨rfl,_⟩:=Du hv2 (e4 _)))
  go_ret2
  exact⟨Aa HOUT,Below.refl _ _⟩
theorem QC{sl:Value}{ps:List Value}{R:Ending->Prop}(ht:t.length<=1048576)(hr:Rng w)(h:VB w b 5 n0 [] sl (.map none))(ho:w.ownsRow 0 80 1 sl ps.length ps)
  (hnone:Sp.idx t=none->R (.returned (.tuple #[.pointer none,.int .i64 12])))
  (hin:∀i (hi:i<ps.length),Sp.idx t=some i->R (.returned (.tuple #[ps[i],.int .i64 0])))
  (hout:∀i,Sp.idx t=some i->ps.length<=i->R (.returned (.tuple #[.pointer none,.int .i64 11]))) :
  Calls Tryz.prog 111 #[.pointer (some ⟨b,0,none⟩),.string ⟨t.toArray⟩] w fun e w'=>R e/\Below w.heap.size w w':=by
 have c0:=h.c0;have c5:=h.c5;have hbl:=h.lt;have hI:=Ab (FW t w ht hr);obtain⟨N,hN⟩:∃N,N=ps.length:=⟨_,rfl⟩
 have hmx:=DU ho;cases hi:Sp.idx t with
 | none =>
  have HOUT:=Ab (hnone hi);rw[hi] at hI;clear ho h hr hi hmx c5 hnone hin hout
  go_enter func111,ntmps111
  go_wp2_with (fail);refine (Aa hI).mono ?_
  rintro e w2 ⟨rfl,hb⟩;unfold E8
  go_wp2_with (fail)
  go_ret2
  exact⟨Aa HOUT,hb⟩
 | some i =>
  rw[hi] at hI;by_cases hin2:i<ps.length
  ·obtain⟨g,cap,rfl,a1,a2,a3,hc⟩:=BF ho (by omega);have HOUT:=Ab (hin i hin2 hi);have hci:=hc i hin2;have hn1:(N:Int)<=9223372036854775807:=by unfold maxLen at hmx;omega
   have hlt:(i:Int)<(N:Int):=by omega
   clear hnone hin hout;generalize ps[i]=pv at *;have HC:=Ab hci;rw[<- hN] at c5 a1;have HC5:=Ab c5;clear ho hr hi hmx hc hci c5
   go_enter func111,ntmps111
   go_wp2_with (fail);refine (Aa hI).mono ?_
   rintro e w2 ⟨rfl,hb⟩;have q5:=(hb.cell (p:=⟨b,5,none⟩) hbl).trans (Aa HC5);have qi:=(hb.cell (p:=⟨g,i,none⟩) a3).trans (Aa HC);have HB:=Ab hb;clear hb hN hin2 h;unfold E8
   go_wp2_with (fail)
   go_ret2
   exact⟨Aa HOUT,Aa HB⟩
  ·have HOUT:=Ab (hout i hi (by omega));obtain⟨g,cap,rfl⟩:=Dt ho;have hlt:¬ (i:Int)<(N:Int):=by omega
   rw[<- hN] at c5;have HC5:=Ab c5;clear ho hr hi hmx c5 hnone hin hout
   go_enter func111,ntmps111
   go_wp2_with (fail);refine (Aa hI).mono ?_
   rintro e w2 ⟨rfl,hb⟩;have q5:=(hb.cell (p:=⟨b,5,none⟩) hbl).trans (Aa HC5);have HB:=Ab hb;clear hb hN hin2 h;unfold E8
   go_wp2_with (fail)
   go_ret2
   exact⟨Aa HOUT,Aa HB⟩
end
structure SZ(G:List Sp.By->World->Value->Sp.V->Prop):Prop where
 call:∀ (s:List Sp.By) (w:World) (v:Value) (d:Sp.V) (t:Sp.By),t.length<=1048576->Rng w->G s w v d->Calls Tryz.prog 111 #[v,.string ⟨t.toArray⟩] w fun e w'=>KP (G (s++[t])) (Sp.Aj d t) e w'/\Below w.heap.size w w'
theorem YT{G:List Sp.By->World->Value->Sp.V->Prop}(hG:SZ G){w:World}{v pv:Value}{d:Sp.V}{l:List Sp.By}(hl:∀t∈l,t.length<=1048576)(hn:l.length<=1048576)(hr:Rng w)(h:G [] w v d)(hp:CQ w pv l) :
  Calls Tryz.prog 81 #[pv,v] w fun e w'=>KP (G l) (Sp.Ag d l) e w'/\Below w.heap.size w w':=by
 rcases hp with⟨rfl,a,c,rfl,_⟩|⟨g,o,cap,rfl,_,_,a1,hc⟩
 ·have HH:=Ab h;clear hl hn hr h hG
  go_enter func81,ntmps81
  go_wp2_with (fail);refine wp_loop_rounds 1 ?_
  rw[rounds_succ]
  go_wp2_with (fail)
  go_ret2
  exact⟨⟨_,rfl,Aa HH⟩,Below.refl _ _⟩
 obtain⟨N,hN⟩:∃N,N=l.length:=⟨_,rfl⟩
 obtain⟨R,hR⟩:∃R,R=Sp.Ag d l:=⟨_,rfl⟩
 rw[<- hR,<- hN];have hn1:(N:Int)<=1048576:=by omega
 have HL:=Ab hl;have HC:=Ab hc;have HR:=Ab hr;have HH:=Ab h;have HG:=Ab hG;have HN:=Ab hN;have HRR:=Ab hR;clear hl hc hr h hN hR hn hG
 go_enter func81,ntmps81
 go_wp2_with (fail)
 go_loopw [6,14] (fun a i wr=>∃ (k:Nat) (d':Sp.V),k<=N/\i = .int .i64 k/\G (l.take k) wr a d'/\Hid (Sp.Ag d l=Sp.Ag d' (l.drop k))/\Below w.heap.size w wr) (fun _ i _=>N-(intOf i).toNat)
 case atStart=>exact⟨0,d,by omega,rfl,Aa HH,rfl,Below.refl _ _⟩
 case round =>
  obtain⟨k,d',hk,rfl,hrep,heq,hb⟩:=hrel;have HB:=Ab hb;have HREP:=Ab hrep;by_cases hlt:k<N
  ·have h1:k<l.length:=by have:=Aa HN;omega
   have hdrop:l.drop k=l[k]::l.drop (k+1):=List.drop_eq_getElem_cons h1;have q:=(hb.cell (p:=⟨g,o+k,none⟩) a1).trans (Aa HC k h1);have hcall:=Ab ((Aa HG).call _ _ _ _ l[k] (Aa HL _ (List.getElem_mem h1)) ((Aa HR).kept hb) hrep);have hlt2:(k:Int)<(N:Int):=by omega
   rw[hdrop] at heq;have HT:=Ab (show l.take (k+1)=l.take k++[l[k]] from List.take_succ_eq_append_getElem h1);have HEQ:=Ab (show Sp.Ag d l=(match Sp.Aj d' l[k] with | .ok e=>Sp.Ag e (l.drop (k+1)) | .error c=>.error c) from heq);generalize l[k]=tk at *;clear heq hb hrep hdrop h1
   go_wp2_with (fail);refine (Aa hcall).mono ?_
   rintro e w2 ⟨ho,hb2⟩;have HB2:=Ab ((Aa HB).trans (hb2.mono (Aa HB).size));clear hb2 hcall q;cases hch:Sp.Aj d' tk with
   | ok d2 =>
    rw[hch] at ho;obtain⟨v2,rfl,hv2⟩:=ho;have HV2:=Ab (show G (l.take (k+1)) w2 v2 d2 by rw[Aa HT];exact hv2);have HE2:=Ab (show Sp.Ag d l=Sp.Ag d2 (l.drop (k+1)) by have h9:=Aa HEQ;rw[hch] at h9;exact h9);clear hv2 hch
    go_wp2_with (fail);exact⟨⟨k+1,d2,by omega,by go_num,Aa HV2,Aa HE2,Aa HB2⟩,by simp only[intOf];omega⟩
   | error c =>
    rw[hch] at ho;have ho2:e = .returned (.tuple #[.pointer none,.int .i64 c]):=ho;subst ho2;have HOUT:=Ab (show KP (G l) R (.returned (.tuple #[.pointer none,.int .i64 c])) w2 by
     have h9:=Aa HEQ;rw[hch] at h9;rw[Aa HRR,h9];rfl)
    have hc12:=EZ hch;have e1:((c:Int) == 0)=false:=by rw[beq_eq_false_iff_ne];omega
    have e2:((c:Int) != 0)=true:=by rw[bne_iff_ne];omega
    clear hch ho hc12
    go_wp2_with (fail)
    go_ret2
    exact⟨Aa HOUT,Aa HB2⟩
  ·have hlt2:¬ (k:Int)<(N:Int):=by omega
   have HOUT:=Ab (show ∀a,G (l.take k) wr a d'->KP (G l) R (.returned (.tuple #[a,.int .i64 0])) wr from fun a ha=>by
    rw[List.take_of_length_le (by have:=Aa HN;omega)] at ha;rw[Aa HRR,show Sp.Ag d l=Sp.Ag d' (l.drop k) from heq,List.drop_eq_nil_of_le (by have:=Aa HN;omega)];exact⟨_,rfl,ha⟩)
   clear heq hb hrep
   go_wp2_with (fail)
   go_ret2
   exact⟨Aa HOUT _ (Aa HREP),Aa HB⟩
end

section
open Go.RowKit Go.Maps
namespace Sp
def pos(d:V)(t:By):Option Nat:=match d with
 | .map es=>es.findIdx? (fun p=>p.1.sameKey (.string t))
 | .slice es _=>match idx t with
  | none=>none
  | some i=>if i<es.length then some i else none
 | _=>none
def A9(d:V):List V:=match d with
 | .map es=>es.map Prod.snd
 | .slice es _=>es
 | _=>[]
def Bz:V->List By->Option (List Nat)
 | _,[]=>some []
 | d,t::r=>match pos d t with
  | none=>none
  | some i=>match (A9 d)[i]? with
   | none=>none
   | some e=>(Bz e r).map (i :: ·)
def BC:List Nat->V->Option V
 | [],d=>some d
 | i::r,d=>match (A9 d)[i]? with
  | none=>none
  | some e=>BC r e
def C5(n:Nat)(t:By):Except Nat Nat :=
 if t=[45] then .ok n else match idx t with
  | none=>.error 12
  | some i=>if n<i then .error 11 else .ok i
def lins{α:Type}(i:Nat)(c:α)(l:List α):List α:=l.take i++c::l.drop i
def ldel{α:Type}(i:Nat)(l:List α):List α:=l.take i++l.drop (i+1)
def mput{α:Type}(k:Lit)(c:DataW α)(es:List (Lit×DataW α)):List (Lit×DataW α):=DataW.insert (k,c) (es.filter fun p=>!p.1.sameKey k)
def mdel{α:Type}(k:Lit)(es:List (Lit×DataW α)):List (Lit×DataW α):=es.filter fun p=>!p.1.sameKey k
def ved(F:List V->List V)(G:List (Lit×V)->List (Lit×V))(d:V):V:=match d with
 | .slice es y=>.slice (F es) y
 | .map es=>.map (G es)
 | d=>d
def CV(i:Nat)(k:By)(x:V):V->V:=ved (lins i x) (mput (.string k) x)
def Eu(i:Nat)(k:By):V->V:=ved (ldel i) (mdel (.string k))
def DH(i:Nat)(k:By)(x:V):V->V:=ved (fun es=>es.set i x) (mput (.string k) x)
def CU(i:Nat)(x:V)(d:V):V:=match d with
 | .slice es y=>.slice (es.set i x) y
 | .map es=>.map (es.modify i fun p=>(p.1,x))
 | d=>d
def Ay:List Nat->V->V->V
 | [],x,_=>x
 | i::r,x,d=>match (A9 d)[i]? with
  | some e=>CU i (Ay r x e) d
  | none=>d
def BT:List Int->Int
 | []=>0
 | x::r=>max x (BT r)
def dep:Nat->V->Int
 | 0,_=>0
 | f+1,d=>match d with
  | .slice es _=>1+BT (es.map (dep f))
  | .map es=>1+BT (es.map fun p=>dep f p.2)
  | _=>1
end Sp
end
end Go.Proofs.YtdpomdelmdofmaaGreatDoor
