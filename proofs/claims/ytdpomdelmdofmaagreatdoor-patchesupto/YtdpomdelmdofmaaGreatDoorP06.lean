import Derived.Test.YtdpomdelmdofmaaGreatDoorP05
open Go renaming World->AI,Value->AS,results->A2,Calls->A3
open Go.Proofs.Tryz renaming prog->AT
open Nat renaming zero_lt_one->A4
open Go.World renaming setCell->A5
open Go.RowKit renaming Below->Bs
set_option maxHeartbeats 8000000
set_option maxRecDepth 100000
namespace Go.Proofs.YtdpomdelmdofmaaGreatDoor
open Go.Proofs.Tryz Go.RowKit
variable{w' a:AI}{B R r b:Nat}{v:pL×rA}{G G' F F':Nat->Prop}{l:List By}{wp:AS}{T:pN}{x:pL}{doc:sL}{s:By}
def SB(w:AI)(S:Nat)(d e n:Int)(p:AS):Prop:=w.1[S]?=some (.cells #[InB d,InB e,InB n,p] 62 (0,0))
section
variable{w:AI}{S:Nat}{d e n:Int}{p:AS}
theorem SB.lt(h:SB w S d e n p):S<w.1.size:=(È.1 h).1
theorem SB.c0(h:SB w S d e n p):CeB w S 0=some (InB d):=ck h
theorem SB.c1(h:SB w S d e n p):CeB w S 1=some (InB e):=ck h
theorem SB.c2(h:SB w S d e n p):CeB w S 2=some (InB n):=ck h
theorem SB.c3(h:SB w S d e n p):CeB w S 3=some p:=ck h
theorem SB.fz(h:SB w S d e n p)(o:Nat):w.frozen? ⟨S,o,none⟩=false:=fk h
theorem SB.low(h:SB w S d e n p)(hb:Bl w w'):SB w' S d e n p:=(hb.block S h.lt).trans h
theorem SB.set3(h:SB w S d e n p)(q:AS):SB (w.setCell ⟨S,3,none⟩ q) S d e n q:=by
 grind [SB,A5]
end
def DB(w:AI)(D:Nat)(rp jn:AS)(ch:Bool)(iv:AS):Prop:=w.1[D]?=some (.cells #[rp,jn,.bool ch,iv] 115 (0,0))
section
variable{w:AI}{D:Nat}{rp jn iv:AS}{ch:Bool}
theorem DB.lt(h:DB w D rp jn ch iv):D<w.1.size:=(È.1 h).1
theorem DB.c0(h:DB w D rp jn ch iv):CeB w D 0=some rp:=ck h
theorem DB.c1(h:DB w D rp jn ch iv):CeB w D 1=some jn:=ck h
theorem DB.c2(h:DB w D rp jn ch iv):CeB w D 2=some (.bool ch):=ck h
theorem DB.c3(h:DB w D rp jn ch iv):CeB w D 3=some iv:=ck h
theorem DB.kept(h:DB w D rp jn ch iv)(hk:w'.1[D]?=w.1[D]?):DB w' D rp jn ch iv:=hk.trans h
end
def mT(w:AI)(g:Nat)(wp:AS):Prop:=w.1[g]?=some (.cells #[wp] 80 (0,0))
theorem Bz{w:AI}{e n q:Nat}{v:AS}{xs:List AS}(h:w.ownsRow B e q v n xs)(hk:∀g,v.ownBlock=some g->w'.1[g]?=w.1[g]?):w'.ownsRow B e q v n xs:=by
 refine⟨h.1,h.2.imp id ?_⟩;rintro⟨g,cap,cur,h1,h2,h3,h4⟩;exact⟨g,cap,cur,h1,h2,(hk g (by rw[h1];rfl)).trans h3,h4⟩
theorem Bt{w:AI}{e n q:Nat}{v:AS}{xs:List AS}(h:w.ownsRow B e q v n xs)(g:Nat)(hg:v.ownBlock=some g):g<w.1.size/\B<=g:=by
 rcases h.2 with⟨h1,_⟩|⟨g',cap,cur,h1,h2,h3,_⟩
 .rw[h1]at hg;cases hg
 .rw[h1]at hg;injection hg with hg;grind
def Bd(w:AI)(G:Nat->Prop)(v:AS)(l:List By):Prop:=
 (l=[]/\∃a c,v=.slice a 0 c/\c<=maxLen)\/∃g o cap,v=.slice (some ⟨g,o,none⟩) l.length cap/\l.length<=cap/\cap<=maxLen/\G g/\Dw w g o l
theorem Bd.toks{w:AI}{v:AS}(h:Bd w G v l):Dl w v l:=by
 rcases h with h|⟨g,o,cap,h1,h2,h3,_,h4⟩
 .exact Å h
 .exact À ε
theorem Dw.move{w:AI}{g o:Nat}(h:Dw w g o l)(hk:w'.1[g]?=w.1[g]?):Dw w' g o l:=by
 refine⟨?_,λk q0=>(Ç (a:=⟨g,o+k,none⟩) hk).trans (h.2 k q0)⟩;have h1:w.1[g]?=some (w.1[g]'h.1):=ε;grind
theorem Bd.move{w:AI}{v:AS}(h:Bd w G v l)(hk:∀k,G k->k<w.1.size->w'.1[k]?=w.1[k]?/\G' k):Bd w' G' v l:=by
 rcases h with h|⟨g,o,cap,h1,h2,h3,hg,h4⟩
 .exact Å h
 .have:=hk g hg h4.1;exact À ⟨g,o,cap,h1,h2,h3,this.2,h4.move this.1⟩
def Ic(w:AI)(G:Nat->Prop)(kv pv fv vv:AS)(o:pW):Prop:=
 kv=InB o.1/\o.1<3/\Bd w G pv o.2.1/\fv=.slice none 0 0/\((o.1=1/\vv=.pointer none)\/(o.1≠1/\Rep top G w vv o.2.2))
theorem Ic.move{w:AI}{kv pv fv vv:AS}{o:pW}(h:Ic w G kv pv fv vv o)(hk:∀k,G k->k<w.1.size->w'.1[k]?=w.1[k]?/\G' k):Ic w' G' kv pv fv vv o:=
 ⟨h.1,h.2.1,h.2.2.1.move hk,h.2.2.2.1,h.2.2.2.2.imp id λ⟨a,b⟩=>⟨a,b.move hk⟩⟩
def EN(w:AI)(G:Nat->Prop):List AS->List pW->Prop
 |[],[]=>True
 |kv::pv::fv::vv::r,o::s=>Ic w G kv pv fv vv o/\EN w G r s
 |_,_=>False
theorem EN.move{w w':AI}{G G':Nat->Prop}(hk:∀k,G k->k<w.1.size->w'.1[k]?=w.1[k]?/\G' k):∀{xs:List AS}{j:List pW},EN w G xs j->EN w' G' xs j
 |[],[],_=>trivial
 |_::_::_::_::_,_::_,⟨a,b⟩=>⟨a.move hk,EN.move hk b⟩
def Ly(w:AI)(G:Nat->Prop)(iv:AS)(j:List pW):Prop:=∃xs,w.ownsRow 0 178 4 iv j.length xs/\(∀g,iv.ownBlock=some g->G g)/\EN w G xs j
theorem Ly.move{w:AI}{iv:AS}{j:List pW}(h:Ly w G iv j)(hk:∀k,G k->k<w.1.size->w'.1[k]?=w.1[k]?/\G' k):Ly w' G' iv j:=by
 obtain⟨xs,h1,h2,h3⟩:=h;exact⟨xs,Bz h1 λg hg=>(hk g (h2 g hg) (Bt h1 g hg).1).1,λg hg=>(hk g (h2 g hg) (Bt h1 g hg).1).2,h3.move hk⟩
def vS(o:pW):Prop:=(o.2.1.map λt=>t.length+1).sum<=1000000/\(o.1≠1 ->∃d x,pU d x top 1 o.2.2/\d<=500)
def LB(w:AI)(G:Nat->Prop)(iv:AS):rA->Prop
 |none=>iv=.slice none 0 0
 |some j=>Ly w G iv j/\(Dq j).length<=8796093022208/\∀o∈j,vS o
theorem LB.move{w:AI}{iv:AS}{j:rA}(h:LB w G iv j)(hk:∀k,G k->k<w.1.size->w'.1[k]?=w.1[k]?/\G' k):LB w' G' iv j:=by
 cases j with
 |none=>exact h
 |some j=>exact⟨h.1.move hk,h.2⟩
structure D8(w:AI)(D R:Nat)(wp jn iv:AS)(ch:Bool)(T a:pN)(x:pL):Prop where
 db:DB w D (PtB R) jn ch iv
 tr:Ad (top+1) w (PtB R) T
 one:∃g,T=pS R g (.slice [a] [])
 sub:Ad top w wp a
 str:pT top a=x
 nd:(pM (top+1) T).Nodup
 nD:D∉pM (top+1) T
theorem D8.move{w:AI}{D:Nat}{jn iv:AS}{ch:Bool}{a:pN}(h:D8 w D R wp jn iv ch T a x)(hD:w'.1[D]?=w.1[D]?)(hk:∀k∈pM (top+1) T,w'.1[k]?=w.1[k]?):D8 w' D R wp jn iv ch T a x:=by
 obtain⟨g,e⟩:=h.one;refine⟨h.db.kept hD,h.tr.move hk,h.one,h.sub.move λk q0=>hk k ?_,h.str,h.nd,h.nD⟩;rw[e,AU];grind
theorem D8.row{w:AI}{D:Nat}{jn iv:AS}{ch:Bool}{a:pN}(h:D8 w D R wp jn iv ch T a x):∃sl,VB w R 5 n0 [] sl (.map none)/\w.ownsRow 0 80 1 sl 1 [wp]:=by
 obtain⟨g,e⟩:=h.one;have ht:=h.tr;rw[e]at ht;obtain⟨b2,g2,x2,e2,hv,ht⟩:=ht;unfold pS at e2;injection e2 with e2;injection e2 with e3 e2;injection e2 with e4 e2;injection e2 with e5 _;injection e3 with e3;injection e3 with _ e3;rcases ht with⟨j,_,_,rfl,_⟩|⟨n,_,rfl,_⟩|⟨s,_,rfl,_⟩|⟨al,sl,ps,rfl,hvb,ho,hs,ha⟩|⟨es,n,D,rfl,_⟩
 .cases e5
 .cases e5
 .cases e5
 .injection e5 with e5 _;subst e5;obtain rfl:R=b2:=ζ;cases ps with
  |nil=>exact ha.elim
  |cons u r=>
   obtain⟨hu,ha⟩:=ha;cases r with
   |nil=>
    obtain rfl:=hu.uniq h.sub;grind
   |cons _ _=>exact ha.elim
 .cases e5
structure Fu(w:AI)(F:Nat->Prop)(D R:Nat)(wp:AS)(d e:Int)(v:pL×rA):Prop where
 ex:∃T a iv,D8 w D R wp (.slice none 0 0) iv v.2.isSome T a v.1/\(∀k∈pM (top+1) T,F k)/\LB w (λk=>F k/\k≠D/\k∉pM (top+1) T) iv v.2
 fD:F D
 len:(pP top v.1).length<=80000
 gd:pU d e top 1 v.1
theorem Fu.move{w:AI}{D:Nat}{d e:Int}(h:Fu w F D R wp d e v)(hF:∀k,F k->k<w.1.size->w'.1[k]?=w.1[k]?/\F' k):Fu w' F' D R wp d e v:=by
 obtain⟨T,a,iv,h1,h2,h3⟩:=h.ex;have hlt:=h1.tr.lt;refine⟨⟨T,a,iv,h1.move (hF D h.fD h1.db.lt).1 ε,ε,h3.move λk hk q0=>?_⟩,(hF D h.fD h1.db.lt).2,h.len,h.gd⟩;grind
theorem Fu.rep{w:AI}{D:Nat}{d e:Int}(h:Fu w F D R wp d e v):Rep top F w wp v.1:=by
 obtain⟨T,a,iv,h1,h2,h3⟩:=h.ex;obtain⟨g,eT⟩:=h1.one;rw[<-h1.str];refine h1.sub.rep λk hk=>h2 k ?_;rw[eT,AU];grind
def BN(w:AI)(F:Nat->Prop)(p:AS)(d e:Int):sL->Prop
 |none=>p=.pointer none
 |some v=>∃D R wp,p=PtB D/\Fu w F D R wp d e v
theorem BN.move{w:AI}{p:AS}{d e:Int}(h:BN w F p d e doc)(hF:∀k,F k->k<w.1.size->w'.1[k]?=w.1[k]?/\F' k):BN w' F' p d e doc:=by
 cases doc with
 |none=>exact h
 |some v=>
  obtain⟨D,R,wp,hp,h⟩:=h;exact⟨D,R,wp,hp,h.move hF⟩
theorem Aj.drew{w:AI}(h:Aj w):Aj w.drew:=⟨h.ng,h.esc,h.words,h.utf8,h.pow,h.pesc,h.rng,h.mx,h.otab⟩
def mX(wp:AS)(w:AI)(x:Ending)(w':AI):Prop:=∃D R g,x=.returned (PtB D)/\Bl w w'/\w.1.size<=D/\w.1.size<=R/\w.1.size<=g/\D≠R/\D≠g/\R≠g/\
 DB w' D (PtB R) (.slice none 0 0) false (.slice none 0 0)/\VB w' R 5 n0 [] (SlB g 1 1) (.map none)/\mT w' g wp
theorem jJ(p:Option Addr)(w:AI):A3 AT 54 #[.pointer p] w λx w'=>mX (.pointer p) w x w':=by
 go_enter func54,ntmps54;go_wp2;go_ret;refine⟨w.1.size+1+1,w.1.size+1,w.1.size,rfl,?_,ζ,ζ,ζ,ζ,ζ,ζ,?_,?_,?_⟩
 .exact (((Â _ w).alloc (Á _) _).alloc φ _).alloc ω _
 .show (((w.1.push _).push _).push _)[w.1.size+1+1]?=_;grind
 .show (((w.1.push _).push _).push _)[w.1.size+1]?=_;grind
 .show (((w.1.push _).push _).push _)[w.1.size]?=_;grind
theorem E8{w:AI}{D:Nat}{jn iv:AS}{ch:Bool}{a:pN}(h:D8 w D R wp jn iv ch T a x):CB 56 #[PtB D] w wp:=by
 obtain⟨sl,hvb,ho⟩:=h.row;have c0:=h.db.c0;have c5:=hvb.c5;obtain⟨g,cap,rfl,a1,a2,a3,hc⟩:=AP ho (A4);have cg:CeB w g 0=some wp:=hc 0 A4;clear h ho hc;go_enter func56,ntmps56;go_wp2;go_ret;exact⟨rfl,Â _ _⟩
theorem Ko{w:AI}{D:Nat}{d e:Int}(h:Fu w F D R wp d e v):CB 56 #[PtB D] w wp:=by
 obtain⟨T,a,iv,h1,_⟩:=h.ex;exact E8 h1
theorem Ty(s:By)(d e:Int)(w:AI)(hT:Aj w):
  A3 AT 77 #[.string ⟨s.toArray⟩,InB d,InB e] w λx w'=>∃(p:Option Addr) (c:Nat),x=.returned (.tuple #[.pointer p,InB c])/\Bl w w'/\
   ((0<c/\qB s d e=(c,none))\/(c=0/\∃v,qB s d e=(0,some v)/\Tr top w.1.size w' (.pointer p) v)):=by
 refine(cM ⟨s.toArray⟩ d e w hT).mono λx w' ⟨hb,hc⟩=>?_;rcases hc with⟨c,h1,h2,rfl⟩|⟨v,p,h1,rfl,h2⟩
 .grind
 grind
theorem Pg{S:Nat}{d e n:Int}{p:AS}{w:AI}(s:By)(h:SB w S d e n p)(hT:Aj w):
  A3 AT 53 #[PtB S,.string ⟨s.toArray⟩] w λx w'=>∃(p:Option Addr) (c:Nat),x=.returned (.tuple #[.pointer p,InB c])/\Bl w w'/\
   ((0<c/\qB s d e=(c,none))\/(c=0/\∃v,qB s d e=(0,some v)/\Tr top w.1.size w' (.pointer p) v)):=by
 have c0:=h.c0;have c1:=h.c1;have HR:=Ab (λ(w0:AI) (hT:Aj w0)=>Ty s d e w0 hT);have HT:=Ab hT;clear hT h;go_enter func53,ntmps53;go_wp2_with fail;go_region_with (go_at_call 77;refine(HR.u _ ?_).mono ?_;exact HT.u.drew;rintro x w2⟨p2,c,rfl,hb2,hc⟩);all_goals (
  replace hb2:Bl w w2:=bx hb2;replace hc:(0<c/\qB s d e=(c,none))\/(c=0/\∃v,qB s d e=(0,some v)/\Tr top w.1.size w2 (.pointer p2) v):=hc;have HB:=Ab hb2;have HC:=Ab hc;clear hb2 hc;go_wp2;go_ret2;exact⟨p2,c,rfl,HB.u,HC.u⟩)
theorem VM{S:Nat}{d e n:Int}{p:AS}{w:AI}(s:By)(h:SB w S d e n p)(hT:Aj w):
  A3 AT 53 #[PtB S,.string ⟨s.toArray⟩] w λx w'=>∃(p:Option Addr) (c:Nat),x=.returned (.tuple #[.pointer p,InB c])/\Bl w w'/\
   ((0<c/\qB s d e=(c,none))\/(c=0/\∃v,qB s d e=(0,some v)/\Rep top (λk=>w.1.size<=k) w' (.pointer p) v)):=by
 refine(Pg s h hT).mono λx w' ⟨p,c,h1,h2,h3⟩=>?_;exact⟨p,c,h1,h2,h3.imp id λ⟨a,v,b,c⟩=>⟨a,v,b,c.rep⟩⟩
def AB(w:AI)(g:Nat):Prop:=w.1[g]?=some (.cells #[InB 0,InB 0,.string ⟨#[]⟩] 46 (0,0))
section
variable{w:AI}{g:Nat}
theorem AB.lt(h:AB w g):g<w.1.size:=(È.1 h).1
theorem AB.c0(h:AB w g):CeB w g 0=some (InB 0):=ck h
theorem AB.c1(h:AB w g):CeB w g 1=some (InB 0):=ck h
theorem AB.c2(h:AB w g):CeB w g 2=some (.string ⟨#[]⟩):=ck h
theorem AB.fz(h:AB w g)(o:Nat):w.frozen? ⟨g,o,none⟩=false:=fk h
theorem AB.low(h:AB w g)(hb:Bl w w'):AB w' g:=(hb.block g h.lt).trans h
theorem AB.new(w:AI):AB (w.alloc (.cells #[InB 0,InB 0,.string ⟨#[]⟩] 46)) w.1.size:=by
 show(w.1.push _)[w.1.size]?=_;simp
end
theorem An{w:AI}(h:Bs B w w')(b o:Nat)(hb:B<=b)(u:AS):Bs B w (w'.setCell ⟨b,o,none⟩ u):=h.setCell (by exact hb) u
theorem iK{w0 w3:AI}{lo D g:Nat}{p2:Option Addr}{v:pL}{d e:Int}(qe:0<lo)(qd:lo<=w0.1.size)(q0:Tr top lo w0 (.pointer p2) v)(hb:Bl w0 w3)(hD:w0.1.size<=D)(hR:w0.1.size<=R)(hg:w0.1.size<=g)(q8:D≠R)(q9:D≠g)(qb:R≠g)(hF:∀k,lo<=k->k<w0.1.size->F k)(fD:F D)(fR:F R)(fg:F g)(q5:DB w3 D (PtB R) (.slice none 0 0) false (.slice none 0 0))(q7:VB w3 R 5 n0 [] (SlB g 1 1) (.map none))(q6:mT w3 g (.pointer p2))(q4:qB s d e=(0,some v)):
  Fu w3 F D R (.pointer p2) d e (v,none):=by
 obtain⟨a,h1,h2,h3,h4⟩:=q0;have h5:=h1.lt;have h6:Ad top w3 (.pointer p2) a:=h1.move λk hk=>hb.block k (h5 k hk);have ef:pM (top+1) (pS R g (.slice [a] []))=R::([g]++pM top a):=by
  rw[AU,if_neg ζ];simp
 refine⟨⟨pS R g (.slice [a] []),a,.slice none 0 0,⟨q5,?_,⟨g,rfl⟩,h6,h2,?_,?_⟩,?_,rfl⟩,fD,Ge q4 top,Fe q4⟩
 .refine⟨R,g,_,rfl,rfl,À (À (À (Å ⟨[a],_,[.pointer p2],rfl,q7,⟨rfl,À ⟨g,1,#[.pointer p2],rfl,Ď _,q6,Á _,by unfold maxLen;omega,rfl,rfl⟩⟩,?_,⟨h6,trivial⟩⟩)))⟩;rw[if_neg ζ];rfl
 .grind
 .grind
 grind
structure Aw(F:Nat->Prop)(w w':AI):Prop where
 os:w'.os=w.os
 tape:w'.tape=w.tape
 output:w'.output=w.output
 size:w.1.size<=w'.1.size
 block:∀k,k<w.1.size ->¬F k->w'.1[k]?=w.1[k]?
theorem Aw.of_below{w:AI}(h:Bl w w'):Aw F w w':=⟨h.os,h.tape,h.output,h.size,λk hk _=>h.block k hk⟩
theorem Aw.trans{b c:AI}(h:Aw F a b)(k:Aw F' b c)(hF:∀k,k<a.1.size->F' k->F k):Aw F a c:=
 ⟨k.os.trans h.os,k.tape.trans h.tape,k.output.trans h.output,Ã h.size k.size,λi hi hx=>(k.block i (Õ hi h.size) λh'=>hx (hF i hi h')).trans (h.block i hi hx)⟩
theorem Aw.setCell{w:AI}(h:Aw F a w){p:Addr}(hp:F p.block\/a.1.size<=p.block)(u:AS):Aw F a (w.setCell p u):=
 ⟨h.os,h.tape,h.output,by simpa[A5]using h.size,λk hk hx=>by
  have hne:k≠p.block:=by
   grind
  exact(Æ _ _ _ _ hne).trans (h.block k hk hx)⟩
theorem Aw.below{w:AI}(h:Aw F w w')(hF:∀k,k<B ->¬F k)(hs:B<=w.1.size):Bs B w w':=
 ⟨h.os,h.tape,h.output,h.size,λk hk=>h.block k ζ (hF k hk)⟩
theorem Aw.mono{w:AI}(h:Aw F w w')(hF:∀k,F k->F' k):Aw F' w w':=⟨h.os,h.tape,h.output,h.size,λk hk hx=>h.block k hk λh'=>hx (hF k h')⟩
theorem Zz{S lo:Nat}{d e n:Int}{p:AS}{w:AI}{v:pL}{p2:Option Addr}(h:SB w S d e n p)(hS:S<lo)(qq:lo<=w.1.size)(q4:Tr top lo w (.pointer p2) v)(qh:qB s d e=(0,some v)):
  A3 AT 43 #[PtB S,.pointer p2] w λx w'=>x=.returned (Ay (0,0,[]))/\Aw (λk=>k=S) w w'/\∃p',SB w' S d e n p'/\BN w' (λk=>lo<=k) p' d e (some (v,none)):=by
 have hlt:=h.lt;have q6:Bl w (w.alloc (.cells #[.int .i64 0,.int .i64 0,.string ⟨#[]⟩] 46)):=(Â _ _).alloc (Á _) _;have h0:=h.low q6;have HS:=Ab h0;have q0:=Ab q4;have qi:=Ab (AB.new w);have qj:=Ab q6;have hsz:(w.alloc (.cells #[.int .i64 0,.int .i64 0,.string ⟨#[]⟩] 46)).1.size=w.1.size+1:=φ;have qd:=Ab qh;clear h h0 q4 q6 qh;go_enter func43,ntmps43;go_wp2_with fail;generalize w.alloc (.cells #[.int .i64 0,.int .i64 0,.string ⟨#[]⟩] 46)=wa at*;refine(jJ p2 _).mono ?_;rintro x w3⟨D,R,g,rfl,hb3,hD,hR,hg,qk,qm,qn,qe,qg,qf⟩;have s3:=HS.u.low hb3;have a3:=qi.u.low hb3;have g0:=a3.c0;have g1:=a3.c1;have g2:=a3.c2;have z:=a3.fz;have qo:S≠w.1.size:=ζ;have S3:=Ab s3;have q7:=Ab (qj.u.trans (hb3.mono ζ));have q8:=Ab qe;have qb:=Ab qg;have q9:=Ab qf;have qr:=hb3.size;have zs:=s3.fz;have q3:=s3.c3;clear a3 s3 hb3 qe qg qf;have q5:=Ab (show Fu w3 (λk=>lo<=k/\k≠w.1.size) D R (.pointer p2) d e (v,none)from iK ζ qq q0.u q7.u ζ ζ ζ qk qm qn ζ ⟨ζ,ζ⟩ ⟨ζ,ζ⟩ ⟨ζ,ζ⟩ q8.u qb.u q9.u qd.u);clear q0 q8 qb q9 qd hsz;go_wp2_with fail;refine Ì (v:=Ay (0,0,[])) (by simp[A2,results43,go_sem,Ay,g0,g1,g2]) rfl ?_;have ho:∀k,k≠w.1.size->((((w3.setCell ⟨S,3,none⟩ (PtB D)).setCell ⟨w.1.size,0,none⟩ (.int .i64 0)).setCell ⟨w.1.size,1,none⟩ (.int .i64 0)).setCell ⟨w.1.size,2,none⟩ (.string ⟨#[]⟩)).1[k]?=(w3.setCell ⟨S,3,none⟩ (PtB D)).1[k]?:=λk hk=>
  (Æ _ _ _ _ hk).trans ((Æ _ _ _ _ hk).trans (Æ _ _ _ _ hk))
 refine⟨rfl,((((Aw.of_below (F:=λk=>k=S) q7.u).setCell (p:=⟨S,3,none⟩) (Å rfl) _).setCell (p:=⟨w.1.size,0,none⟩) (À (Á _)) _).setCell (p:=⟨w.1.size,1,none⟩) (À (Á _)) _).setCell (p:=⟨w.1.size,2,none⟩) (À (Á _)) _,_,(ho S qo).trans (S3.u.set3 _),D,R,.pointer p2,rfl,q5.u.move λk h1 h2=>⟨(ho k h1.2).trans (Æ _ _ _ _ ε),h1.1⟩⟩
structure Bo(r:Nat)(w w':AI):Prop where
 os:w'.os=w.os
 tape:w'.tape=w.tape
 output:w'.output=w.output
 size:w'.1.size=w.1.size
 block:∀k,k≠r->w'.1[k]?=w.1[k]?
theorem Bo.of3(r:Nat)(w:AI)(a b c:AS):Bo r w (((w.setCell ⟨r,0,none⟩ a).setCell ⟨r,1,none⟩ b).setCell ⟨r,2,none⟩ c):=
 ⟨rfl,rfl,rfl,κ,λk hk=>(Æ _ _ _ _ hk).trans ((Æ _ _ _ _ hk).trans (Æ _ _ _ _ hk))⟩
theorem Bo.below{w:AI}(h:Bo r w w')(hb:Bs B a w)(hr:B<=r):Bs B a w':=
 ⟨h.os.trans hb.os,h.tape.trans hb.tape,h.output.trans hb.output,by rw[h.size];exact hb.size,λk hk=>(h.block k ζ).trans (hb.block k hk)⟩
theorem Bo.kept{w:AI}(h:Bo r w w')(hb:Aw F a w)(hr:a.1.size<=r):Aw F a w':=
 ⟨h.os.trans hb.os,h.tape.trans hb.tape,h.output.trans hb.output,by rw[h.size];exact hb.size,λk hk hx=>(h.block k ζ).trans (hb.block k hk hx)⟩
theorem QZ{S f:Nat}{d e n:Int}{p:AS}{w:AI}{Q:pL->Option Addr->AI->rD->AI->Prop}(hin:∀args w,(callFunc f args).run AT w=.ok (.enter f args) w)(h:SB w S d e n p)(hT:Aj w)(q0:∀v p2 w1,Bl w w1->AB w1 w.1.size->qB s d e=(0,some v)->Tr top (w.1.size+1) w1 (.pointer p2) v ->
   A3 AT f #[.pointer (some ⟨S,0,none⟩),.pointer p2] w1 λx w2=>∃A:rD,x=.returned (Ay A)/\AB w2 w.1.size/\Q v p2 w1 A w2):
  A3 AT 42 #[.pointer (some ⟨S,0,none⟩),.string ⟨s.toArray⟩,.func (.func f) #[.pointer (some ⟨S,0,none⟩)] #[]] w λx w'=>
   (∃c,0<c/\qB s d e=(c,none)/\x=.returned (Ay (c,0,[]))/\Bl w w')\/
   (∃v p2 w1 A w2,qB s d e=(0,some v)/\Bl w w1/\w.1.size<w1.1.size/\Q v p2 w1 A w2/\x=.returned (Ay A)/\Bo w.1.size w2 w'):=by
 have q5:Bl w (w.alloc (.cells #[.int .i64 0,.int .i64 0,.string ⟨#[]⟩] 46)):=(Â _ _).alloc (Á _) _;have qb:=hT.below (q5.mono hT.ng);have HS:=Ab (h.low q5);have HT:=Ab qb;have qd:=Ab (AB.new w);have qf:=Ab q5;have hsz:(w.alloc (.cells #[.int .i64 0,.int .i64 0,.string ⟨#[]⟩] 46)).1.size=w.1.size+1:=φ;have HC:=Ab q0;have qg:=Ab hin;clear hT h qb q5 q0 hin;go_enter func42,ntmps42;go_wp2_with fail;generalize w.alloc (.cells #[.int .i64 0,.int .i64 0,.string ⟨#[]⟩] 46)=wa at*;refine(Pg s HS.u HT.u).mono ?_;rintro x w1⟨p2,c,rfl,hb1,hc⟩;have a1:=qd.u.low hb1;have q6:=Ab (qf.u.trans (hb1.mono ζ));have qh:=hb1.size;rcases hc with⟨hpos,q4⟩|⟨rfl,v,q4,q8⟩
 .have q7:=Ab q4;have e0:((c:Int)!=0)=true:=ω;have A1:=Ab a1;clear q4 a1 hb1;go_wp2_with fail;refine(BL c w1).mono ?_;rintro x w3⟨rfl,hb3⟩;have a3:=A1.u.low hb3;have g0:=a3.c0;have g1:=a3.c1;have g2:=a3.c2;have z:=a3.fz;have qe:=Ab (q6.u.trans (hb3.mono ζ));clear a3 hb3;unfold AC;go_wp2_with fail;refine Ì (v:=Ay (c,0,[])) (by simp[A2,results42,go_sem,Ay,g0,g1,g2]) rfl ?_;exact Å ⟨c,hpos,q7.u,rfl,(Bo.of3 w.1.size w3 _ _ _).below qe.u (Á _)⟩
 .have q9:=Ab (HC.u v p2 w1 q6.u a1 q4 ε);have q7:=Ab q4;clear q4 a1 hb1 q8 HC;go_wp2_with fail;rw[qg.u,Oper.upon_enter];refine q9.u.mono ?_;rintro x w2⟨A,rfl,a2,hq⟩;have g0:=a2.c0;have g1:=a2.c1;have g2:=a2.c2;have z:=a2.fz;have HQ:=Ab hq;clear a2 hq q9;unfold Ay;go_wp2_with fail;refine Ì (v:=Ay A) (by simp[A2,results42,go_sem,Ay,g0,g1,g2]) rfl ?_;exact À ⟨v,p2,w1,A,w2,q7.u,q6.u,ζ,HQ.u,rfl,Bo.of3 _ _ _ _ _⟩
def Vj:Prop:=∀(S:Nat) (d e n:Int) (p:AS) (v:pL×rA) (F:Nat->Prop) (s:By) (w:AI),s.length<=1048576->SB w S d e n p->BN w F p d e (some v)->Aj w ->
 CB 57 #[.pointer (some ⟨S,0,none⟩),.string ⟨s.toArray⟩] w (Ay (tG v.1 s))
def QL:Prop:=∀(S:Nat) (d e n:Int) (p:AS) (v:pL×rA) (F:Nat->Prop) (s t:By) (w:AI),s.length<=1048576->SB w S d e n p->BN w F p d e (some v)->Aj w ->
 CB 58 #[.pointer (some ⟨S,0,none⟩),.string ⟨s.toArray⟩,.string ⟨t.toArray⟩] w (Ay (tK d e v.1 s t,0,[]))
def Fc(F:Nat->Prop)(p:AS)(d e:Int)(r:rD×(pL×rA))(w:AI)(x:Ending)(w':AI):Prop:=
 x=.returned (Ay r.1)/\Aw F w w'/\BN w' (λk=>(F k/\k<w.1.size)\/w.1.size<=k) p d e (some r.2)
theorem Fc.low{p:AS}{d e:Int}{A:rD}{w:AI}(hd:BN w F p d e (some v))(hb:Bl w w'):Fc F p d e (A,v) w (.returned (Ay A)) w':=
 ⟨rfl,Aw.of_below hb,hd.move λk h1 h2=>⟨hb.block k h2,Å ⟨h1,h2⟩⟩⟩
def Nb:Prop:=∀(S:Nat) (d e n:Int) (p:AS) (v:pL×rA) (F:Nat->Prop) (s:By) (w:AI),rT d e n=true->(∀k,F k->NG<=k/\k≠S)->SB w S d e n p->BN w F p d e (some v)->Aj w ->
 A3 AT 59 #[.pointer (some ⟨S,0,none⟩),.string ⟨s.toArray⟩] w (Fc F p d e (tO d e v s) w)
def LA:Prop:=∀(S:Nat) (d e n:Int) (p:AS) (v:pL×rA) (F:Nat->Prop) (w:AI),SB w S d e n p->BN w F p d e (some v)->Aj w ->
 CB 61 #[.pointer (some ⟨S,0,none⟩)] w (Ay (uU v))
def cT(o:St):Prop:=(o.1=1\/o.1=2)\/((o.1=3\/o.1=4)/\Vj/\QL/\o.2.1.length<=1048576)\/(o.1=5/\Nb)\/(o.1=7/\LA)
noncomputable def uG(d e n:Int)(v:pL×rA)(o:St):rD×(pL×rA):=if o.1<5 then(tQ d e v.1 o,v)else tP d e n v o
theorem BN.bel{w:AI}{p:AS}{d e:Int}(h:BN w F p d e doc)(hb:Bl w w'):BN w' F p d e doc:=h.move λk h1 h2=>⟨hb.block k h2,h1⟩
theorem Fu.bel{w:AI}{D:Nat}{d e:Int}(h:Fu w F D R wp d e v)(hb:Bl w w'):Fu w' F D R wp d e v:=h.move λk h1 h2=>⟨hb.block k h2,h1⟩
def E7(w:AI)(k:Int)(s t:By):AI:=(w.alloc (.cells #[.int .i64 k,.string ⟨s.toArray⟩,.string ⟨t.toArray⟩] 49)).alloc (.cells #[.int .i64 0,.int .i64 0,.string ⟨#[]⟩] 46)
theorem MC(w:AI)(k:Int)(s t:By):Bl w (E7 w k s t):=((Â _ _).alloc (Á _) _).alloc φ _
theorem Oz(w:AI)(k:Int)(s t:By):(E7 w k s t).1.size=w.1.size+2:=by simp[E7]
theorem Tt(w:AI)(k:Int)(s t:By):AB (E7 w k s t) (w.1.size+1):=by
 have:=AB.new (w.alloc (.cells #[.int .i64 k,.string ⟨s.toArray⟩,.string ⟨t.toArray⟩] 49));rw[show(w.alloc (.cells #[.int .i64 k,.string ⟨s.toArray⟩,.string ⟨t.toArray⟩] 49)).1.size=w.1.size+1 from φ]at this;exact this
theorem Ts(w:AI)(k:Int)(s t:By):(E7 w k s t).1[w.1.size]?=some (.cells #[.int .i64 k,.string ⟨s.toArray⟩,.string ⟨t.toArray⟩] 49 (0,0)):=by
 show((w.1.push _).push _)[w.1.size]?=_;grind
structure E9(a b:Nat)(w w':AI):Prop where
 os:w'.os=w.os
 tape:w'.tape=w.tape
 output:w'.output=w.output
 size:w'.1.size=w.1.size
 block:∀k,(k<a\/b<=k)->w'.1[k]?=w.1[k]?
theorem Bo.isIn{a:Nat}{w:AI}(h:Bo r w w')(h1:a<=r)(h2:r<b):E9 a b w w':=⟨h.os,h.tape,h.output,h.size,λk hk=>h.block k ζ⟩
theorem E9.trans{a:Nat}{w q0:AI}(h:E9 a b w w')(h':E9 a b w' q0):E9 a b w q0:=
 ⟨h'.os.trans h.os,h'.tape.trans h.tape,h'.output.trans h.output,h'.size.trans h.size,λk hk=>(h'.block k hk).trans (h.block k hk)⟩
theorem E9.kept{a:Nat}{w0 w:AI}(h:E9 a b w w')(hb:Aw F w0 w)(hr:w0.1.size<=a):Aw F w0 w':=
 ⟨h.os.trans hb.os,h.tape.trans hb.tape,h.output.trans hb.output,by rw[h.size];exact hb.size,λk hk hx=>(h.block k ζ).trans (hb.block k hk hx)⟩
theorem Tw{p:AS}{d e:Int}{r:rD×(pL×rA)}{w w1 w2 w3:AI}(hb:Bl w w1)(h:Fc (λk=>F k/\k<w.1.size) p d e r w1 (.returned (Ay r.1)) w2)(hs:E9 w.1.size w1.1.size w2 w3):Fc F p d e r w (.returned (Ay r.1)) w3:=by
 obtain⟨_,h1,h2⟩:=h;refine⟨rfl,?_,h2.move λk hk _=>⟨hs.block k ?_,?_⟩⟩
 .exact hs.kept ((Aw.of_below (F:=F) hb).trans h1 λk _ h=>h.1) (Á _)
 .omega
 .rcases hk with⟨hk,_⟩|hk
  .grind
  .exact À (by have:=hb.size;omega)
def JB(F:Nat->Prop)(p:AS)(d e:Int)(M:rD×(pL×rA))(w:AI)(x:Ending)(w':AI):Prop:=
 ∃wm w2,Bl w wm/\w.1.size+2<=wm.1.size/\Fc (λk=>F k/\k<w.1.size) p d e M wm (.returned (Ay M.1)) w2/\E9 w.1.size wm.1.size w2 w'/\AB w' (w.1.size+1)/\x=.returned (Ay M.1)
theorem JB.low{p:AS}{d e:Int}{A:rD}{w wa:AI}(hd:BN wa (λk=>F k/\k<w.1.size) p d e (some v))(ha:AB wa (w.1.size+1))(q0:Bl w wa)(hs:wa.1.size=w.1.size+2)(hb:Bl wa w'):JB F p d e (A,v) w (.returned (Ay A)) w':=
 ⟨wa,w',q0,ζ,Fc.low hd hb,⟨rfl,rfl,rfl,rfl,λ_ _=>rfl⟩,ha.low hb,rfl⟩
theorem jC{S:Nat}{d e n k:Int}{p:AS}{w:AI}(s t:By)(q8:rT d e n=true)(qq:¬k<1)(qt:¬9<k)(qr:k≠1)(hF:∀k,F k->NG<=k/\k≠S)(hf:cT (k,s,t))(h:SB w S d e n p)(hd:BN w F p d e (some v))(hT:Aj w):
  A3 AT 44 #[.pointer (some ⟨S,0,none⟩),.agg #[.int .i64 k,.string ⟨s.toArray⟩,.string ⟨t.toArray⟩]] w (Fc F p d e (uG d e n v (k,s,t)) w):=by
 obtain⟨M,hM⟩:∃M,M=uG d e n v (k,s,t):=⟨_,rfl⟩
 rw[<-hM];have hlt:=h.lt;have q7:=MC w k s t;have qg:=hT.below (q7.mono hT.ng);have h0:=h.low q7;have qn:BN (E7 w k s t) (λk=>F k/\k<w.1.size) p d e (some v):=hd.move λk h1 h2=>⟨q7.block k h2,h1,h2⟩
 have a0:=Tt w k s t;have o0:=Ts w k s t;have hsz:=Oz w k s t;have qf:∀j,(F j/\j<w.1.size)->NG<=j/\j≠S:=λj hj=>hF j hj.1;have c3:=h0.c3;have q0:(E7 w k s t).cell? ⟨w.1.size,0,none⟩=some (.int .i64 k):=ck o0;have q1:(E7 w k s t).cell? ⟨w.1.size,1,none⟩=some (.string ⟨s.toArray⟩):=ck o0;have q2:(E7 w k s t).cell? ⟨w.1.size,2,none⟩=some (.string ⟨t.toArray⟩):=ck o0;have eW:(w.alloc (.cells #[.int .i64 k,.string ⟨s.toArray⟩,.string ⟨t.toArray⟩] 49)).alloc (.cells #[.int .i64 0,.int .i64 0,.string ⟨#[]⟩] 46)=E7 w k s t:=rfl;have HA:=Ab a0;have HT:=Ab qg;have H0:=Ab h0;have HD:=Ab qn;have qk:=Ab hd;have HF:=Ab hf;have qm:=Ab qf;have q6:=Ab q7;have qj:=Ab q8;have HM:=Ab hM;clear h hd hT h0 qg a0 hf o0 hF qf q7 q8 hM;by_cases hk:k=2
 .have HE:=Ab (show M=((0,0,pP top v.1),v) by rw[HM.u];unfold uG;rw[if_pos (show k<5 from ζ)];unfold tQ;grind);have q9:=HD;obtain⟨D,R,wp,rfl,qh⟩:=HD.u;have q9:=Ab qh;obtain⟨A,hA⟩:∃A:rD,A=(0,0,pP top v.1):=⟨_,rfl⟩
  clear qh;subst hk;go_enter func44,ntmps44;go_wp2_with fail;refine(Ko q9.u).mono ?_;rintro x w0⟨rfl,qb⟩;have qi:=(q9.u.bel qb).rep;have qd:=Ab (EC qi (HT.u.below (qb.mono HT.u.ng)) (Ã q9.u.len ζ));have qe:=Ab qb;clear qb qi;go_wp2_with fail;refine qd.u.mono ?_;rintro x w1⟨rfl,hb1⟩;replace hb1:=qe.u.trans (hb1.mono qe.u.size);have a1:=HA.u.low hb1;have g0:=a1.c0;have g1:=a1.c1;have g2:=a1.c2;have z:=a1.fz;have HB:=Ab (show Bl w w1 from q6.u.trans (hb1.mono ζ));clear a1 hb1;go_wp2_with fail;refine Ì (v:=Ay (0,0,pP top v.1)) (by simp[A2,results44,go_sem,Ay,g0,g1,g2]) rfl ?_;rw[HE.u];exact Fc.low qk.u ((Bo.of3 (w.1.size+1) w1 _ _ _).below HB.u ζ)
 have hcase:(k=3/\Vj/\s.length<=1048576)\/(k=4/\QL/\s.length<=1048576)\/(k=5/\Nb)\/(k=7/\LA):=by
  rcases HF.u with h|⟨h,hh⟩|⟨h,hh⟩|⟨h,hh⟩;all_goals grind
 rcases hcase with⟨hk,q4,hs⟩|⟨hk,q4,hs⟩|⟨hk,q4⟩|⟨hk,q4⟩;have q5:=Ab (((q4 S d e n _ v _ s _ hs H0.u HD.u HT.u)).mono (R':=JB F p d e M w) (by
   rintro x w1⟨rfl,hb⟩;rw[show M=(tG v.1 s,v) by rw[HM.u];unfold uG;rw[if_pos (show k<5 from ζ)];unfold tQ;grind];exact JB.low HD.u HA.u q6.u hsz hb))
 rotate_left;have q5:=Ab (((q4 S d e n _ v _ s t _ hs H0.u HD.u HT.u)).mono (R':=JB F p d e M w) (by
   rintro x w1⟨rfl,hb⟩;rw[show M=((tK d e v.1 s t,0,[]),v) by rw[HM.u];unfold uG;rw[if_pos (show k<5 from ζ)];unfold tQ;grind];exact JB.low HD.u HA.u q6.u hsz hb))
 rotate_left;have q5:=Ab ((q4 S d e n _ v _ s _ qj.u qm.u H0.u HD.u HT.u).mono (R':=JB F p d e M w) (by
   rintro x w1 hx;rw[show tO d e v s=M by rw[HM.u];grind [uG,tP]]at hx;have qo:=hx.1;subst qo;exact⟨_,w1,q6.u,ζ,hx,⟨rfl,rfl,rfl,rfl,λ_ _=>rfl⟩,(hx.2.1.block _ ζ (λh=>ζ)).trans HA.u,rfl⟩))
 rotate_left;have q5:=Ab ((q4 S d e n _ v _ _ H0.u HD.u HT.u).mono (R':=JB F p d e M w) (by
   rintro x w1⟨rfl,hb⟩;rw[show M=(uU v,v) by rw[HM.u];grind [uG,tP]];exact JB.low HD.u HA.u q6.u hsz hb))
 rotate_left;all_goals (
  clear q4;subst hk;go_enter func44,ntmps44;go_wp2_with fail;refine q5.u.mono ?_;rintro x w1⟨wm,w2,hb,hm,hx,hs,a1,rfl⟩;have g0:=a1.c0;have g1:=a1.c1;have g2:=a1.c2;have z:=a1.fz;have HX:=Ab hx;have HS:=Ab hs;have HB:=Ab hb;clear a1 hx hs hb q5;unfold Ay;go_wp2_with fail;refine Ì (v:=Ay M.1) (by simp[A2,results44,go_sem,Ay,g0,g1,g2]) rfl ?_;exact Tw HB.u HX.u (HS.u.trans ((Bo.of3 (w.1.size+1) w1 _ _ _).isIn ζ ζ)))
def Ek(S:Nat)(d e n:Int)(doc:sL)(o:St)(F:Nat->Prop)(w:AI)(x:Ending)(w':AI):Prop:=
 x=.returned (Ay (rF d e n doc o).1)/\Aw (λk=>F k\/k=S) w w'/\∃p',SB w' S d e n p'/\BN w' (λk=>(F k/\k<w.1.size)\/w.1.size<=k) p' d e (rF d e n doc o).2
theorem Ek.low{S:Nat}{d e n:Int}{o:St}{w:AI}{a:rD}{p:AS}(he:rF d e n doc o=(a,doc))(h:SB w S d e n p)(hd:BN w F p d e doc)(hb:Bl w w'):
  Ek S d e n doc o F w (.returned (Ay a)) w':=by
 unfold Ek;rw[he];exact⟨rfl,Aw.of_below hb,p,h.low hb,hd.move λk h1 h2=>⟨hb.block k h2,Å ⟨h1,h2⟩⟩⟩
theorem YD{S:Nat}{d e n:Int}{p:AS}{w:AI}(k:Int)(s t:By)(hF:∀k,F k->NG<=k/\k≠S)(hf:cT (k,s,t))(h:SB w S d e n p)(hd:BN w F p d e doc)(hT:Aj w):
  A3 AT 36 #[.pointer (some ⟨S,0,none⟩),.agg #[.int .i64 k,.string ⟨s.toArray⟩,.string ⟨t.toArray⟩]] w λx w'=>Ek S d e n doc (k,s,t) F w x w':=by
 have hk:k=1\/k=2\/k=3\/k=4\/k=5\/k=7:=by
  rcases hf with h|⟨h,_⟩|⟨h,_⟩|⟨h,_⟩<;>simp only at h<;>omega
 have qr:=Ab hf;have qj:=Ab hF;have hlt:=h.lt;have q9:=MC w k s t;have qm:=hT.below (q9.mono hT.ng);have h0:=h.low q9;have qn:BN (E7 w k s t) (λk=>F k/\k<w.1.size) p d e doc:=hd.move λk h1 h2=>⟨q9.block k h2,h1,h2⟩
 have a0:=Tt w k s t;have o0:=Ts w k s t;have hsz:=Oz w k s t;have eW:(w.alloc (.cells #[.int .i64 k,.string ⟨s.toArray⟩,.string ⟨t.toArray⟩] 49)).alloc (.cells #[.int .i64 0,.int .i64 0,.string ⟨#[]⟩] 46)=E7 w k s t:=rfl;have c0:=h0.c0;have c1:=h0.c1;have c2:=h0.c2;have HA:=Ab a0;have H0:=Ab h0;have HD:=Ab qn;have HT:=Ab qm;have HH:=Ab h;have qe:=Ab hd;have HO:=Ab o0;have qi:=Ab q9;clear h hd hT h0 qn qm a0 o0 hf hF q9;go_enter func36,ntmps36;go_wp2_with fail;refine(PW d e n _).mono ?_;rintro x w1⟨rfl,hb1⟩;replace hb1:Bs (E7 w k s t).1.size (E7 w k s t) w1:=hb1;have h1:=H0.u.low hb1;have d1:BN w1 (λk=>F k/\k<w.1.size) p d e doc:=HD.u.bel hb1;have a1:=HA.u.low hb1;have T1:=HT.u.below (hb1.mono HT.u.ng);have o1:w1.1[w.1.size]?=_:=(hb1.block w.1.size ζ).trans HO.u;have q8:Bl w w1:=qi.u.trans (hb1.mono ζ);have qy:w.1.size+2<=w1.1.size:=by have:=hb1.size;omega
 have q0:w1.cell? ⟨w.1.size,0,none⟩=some (.int .i64 k):=ck o1;have q1:w1.cell? ⟨w.1.size,1,none⟩=some (.string ⟨s.toArray⟩):=ck o1;have q2:w1.cell? ⟨w.1.size,2,none⟩=some (.string ⟨t.toArray⟩):=ck o1;have g0:=a1.c0;have g1:=a1.c1;have g2:=a1.c2;have z:=a1.fz;have c3:=h1.c3;have H1:=Ab h1;have D1:=Ab d1;have A1:=Ab a1;have qk:=Ab T1;have qd:=Ab q8;clear h1 d1 a1 T1 o1 hb1 q8 H0 HD HA HT HO c0 c1 c2 hsz eW qi;by_cases q5:rT d e n=false\/(k≠1/\doc=none)
 .have hb:∃c:Nat,rF d e n doc (k,s,t)=((c,0,[]),doc)/\((rT d e n=false/\Hid (∀W,CB 41 #[.int .i64 2] W (AC c [])))\/(rT d e n=true/\Hid (∀W,CB 41 #[.int .i64 3] W (AC c []))/\decide (k<1)=false/\decide (9<k)=false/\(k==1)=false/\p=.pointer none)):=by
   rcases q5 with h|⟨h1,rfl⟩
   .exact⟨2,by unfold rF;grind,Å ⟨h,BL 2⟩⟩
   .cases hc:rT d e n with
    |false=>exact⟨2,by unfold rF;grind,Å ⟨rfl,BL 2⟩⟩
    |true=>exact⟨3,by unfold rF;grind,À ⟨rfl,BL 3,ω,ω,by simpa using h1,qe.u⟩⟩
  obtain⟨c,hE,hb⟩:=hb;have HE:=Ab hE;clear hE q5 hk;rcases hb with⟨h0,HC⟩|⟨h0,HC,e1,e9,el,rfl⟩;all_goals (
   rw[h0];clear h0;simp only;go_wp2_with fail;refine(HC.u _).mono ?_;rintro x w2⟨rfl,hb2⟩;have a2:=A1.u.low hb2;clear g0 g1 g2 z q0 q1 q2;have g0:=a2.c0;have g1:=a2.c1;have g2:=a2.c2;have z:=a2.fz;have qg:=Ab (show Bl w w2 from qd.u.trans (hb2.mono ζ));clear a2 hb2;unfold AC;go_wp2_with fail;refine Ì (v:=AC c []) (by simp[A2,results36,go_sem,AC,g0,g1,g2]) rfl ?_;exact Ek.low HE.u HH.u qe.u ((Bo.of3 (w.1.size+1) w2 _ _ _).below qg.u ζ))
 have q6:rT d e n=true:=by simp only[not_or,Bool.not_eq_false]at q5;exact q5.1
 have k1:¬k<1:=ζ;have k9:¬9<k:=ζ;rw[q6]
 focus
  by_cases kl:k=1
  .subst kl;have HE:=Ab (show rF d e n doc (1,s,t)=vA (qB s d e) doc by unfold rF;grind);clear q6 k1 k9 c3;simp only;have q4:=Ab (QZ (f:=43) (s:=s) (hin:=CZ func43 δ rfl) (Q:=λq p2 qo A w2=>A=(0,0,[])/\Aw (λk=>k=S) qo w2/\∃p',SB w2 S d e n p'/\BN w2 (λk=>w1.1.size+1<=k) p' d e (some (q,none))) H1.u qk.u (λq p2 qo hb1 hab q7 qv=>by
    refine(Zz (H1.u.low hb1) ζ hab.lt qv q7).mono ?_;rintro x w2⟨rfl,hk,p',qb,qf⟩;exact⟨_,rfl,(hk.block _ hab.lt ζ).trans hab,rfl,hk,p',qb,qf⟩))
   go_wp2_with fail;refine q4.u.mono ?_;rintro x w2 (⟨c,hpos,q7,rfl,hb2⟩|⟨q,p2,w3,A,w4,q7,hb2,hs2,⟨rfl,hk,p',hsb4,qf⟩,rfl,qb⟩)
   .obtain⟨A,hA⟩:∃A:rD,A=(c,0,[]):=⟨_,rfl⟩
    have qh:=Ab (show vA (qB s d e) doc=(A,doc) by rw[q7,hA];rfl);rw[<-hA];have a2:=A1.u.low hb2;clear g0 g1 g2 z q0 q1 q2 hA q7;have g0:=a2.c0;have g1:=a2.c1;have g2:=a2.c2;have z:=a2.fz;have qg:=Ab (show Bl w w2 from qd.u.trans (hb2.mono ζ));clear a2 hb2 q4;unfold Ay;go_wp2_with fail;refine Ì (v:=Ay A) (by simp[A2,results36,go_sem,Ay,g0,g1,g2]) rfl ?_;exact Ek.low (HE.u.trans qh.u) HH.u qe.u ((Bo.of3 (w.1.size+1) w2 _ _ _).below qg.u ζ)
   .have qh:=Ab (show vA (qB s d e) doc=((0,0,[]),some (q,none)) by rw[q7];rfl);have a2:AB w2 (w.1.size+1):=(qb.block _ ζ).trans ((hk.block _ ζ ζ).trans ((hb2.block _ ζ).trans A1.u));clear g0 g1 g2 z q0 q1 q2 q7;have g0:=a2.c0;have g1:=a2.c1;have g2:=a2.c2;have z:=a2.fz;have HK:=Ab ((Aw.of_below (F:=λk=>F k\/k=S) (qd.u.trans (hb2.mono ζ))).trans hk λj _ hj=>À hj);have HI:=Ab (qb.isIn (a:=w.1.size) (b:=w1.1.size+1) ζ ζ);have qu:=Ab hsb4;have qq:=Ab qf;clear a2 hb2 hk qb hsb4 qf q4;unfold Ay;go_wp2_with fail;refine Ì (v:=Ay (0,0,[])) (by simp[A2,results36,go_sem,Ay,g0,g1,g2]) rfl ?_;have hi:=HI.u.trans ((Bo.of3 (w.1.size+1) w2 (.int .i64 ((0,0,[]):rD).1) (.int .i64 ((0,0,[]):rD).2.1) (.string ⟨((0,0,[]):rD).2.2.toArray⟩)).isIn (a:=w.1.size) (b:=w1.1.size+1) ζ ζ);unfold Ek;rw[HE.u.trans qh.u];exact⟨rfl,hi.kept HK.u (Á _),p',(hi.block S ζ).trans qu.u,qq.u.move λj hj _=>⟨hi.block j (À hj),À ζ⟩⟩
  have e1:decide (k<1)=false:=ε;have e9:decide (9<k)=false:=ε;have el:(k==1)=false:=ε;cases hdoc:doc with
  |none=>exact absurd (À ⟨kl,hdoc⟩) q5
  |some v=>
   subst hdoc;have HE:=Ab (show rF d e n (some v) (k,s,t)=((uG d e n v (k,s,t)).1,some (uG d e n v (k,s,t)).2) by
    unfold rF;rw[q6,if_pos rfl,if_neg ω,if_neg kl];unfold uG;grind)
   have q4:=Ab (jC s t q6 k1 k9 kl (λj hj=>qj.u j hj.1) qr.u H1.u D1.u qk.u);have hD:=qe.u;obtain⟨D,R,wp,rfl,_⟩:=hD;obtain⟨A,hA⟩:∃A,A=uG d e n v (k,s,t):=⟨_,rfl⟩
   rw[<-hA]at HE q4;clear q6 k1 k9 kl;simp only;go_wp2_with fail;refine q4.u.mono ?_;rintro x w2 hx;have qw:=hx.1;subst qw;have a2:AB w2 (w.1.size+1):=(hx.2.1.block _ ζ (λh=>ζ)).trans A1.u;have s2:SB w2 S d e n (.pointer (some ⟨D,0,none⟩)):=(hx.2.1.block S ζ (λh=>(qj.u S h.1).2 rfl)).trans H1.u;clear g0 g1 g2 z q0 q1 q2 hA;have g0:=a2.c0;have g1:=a2.c1;have g2:=a2.c2;have z:=a2.fz;have HX:=Ab hx;have qt:=Ab s2;clear a2 hx s2 q4;unfold Ay;go_wp2_with fail;refine Ì (v:=Ay A.1) (by simp[A2,results36,go_sem,Ay,g0,g1,g2]) rfl ?_;have hi:=(Bo.of3 (w.1.size+1) w2 (.int .i64 A.1.1) (.int .i64 A.1.2.1) (.string ⟨A.1.2.2.toArray⟩)).isIn (a:=w.1.size) (b:=w1.1.size) ζ ζ;obtain⟨_,r1,r2⟩:=Tw (F:=F) qd.u HX.u hi;unfold Ek;rw[HE.u];exact⟨rfl,r1.mono λj hj=>Å hj,_,(hi.block S ζ).trans qt.u,r2⟩
