import Derived.Test.YtdpomdelmdofmaaGreatDoorP28
import Derived.Test.YtdpomdelmdofmaaGreatDoorP25
open Go.Proofs.Tryz renaming prog->AI
open Nat renaming le_max_right->AS
open Go renaming World->AT,Calls->A1
set_option maxRecDepth 100000
set_option maxHeartbeats 32000000
namespace Go.Proofs.YtdpomdelmdofmaaGreatDoor
open Go.Proofs.Tryz Go.RowKit Go.Maps
def cP(d:pL):Prop:=(∀es z,d ≠ .slice es z)/\∀E,d ≠ .map E
section
variable{F:Nat->Prop}{w:AT}{v u lv:Value}{d y z:pL}{b:Nat}{t:By}
theorem cP.child(h:cP d)(t:By):qA d t=.error 11:=by
 unfold qA;split
 .exact absurd rfl (h.2 _)
 .exact absurd rfl (h.1 _ _)
 .rfl
theorem RO.three(hro:RO F w v d):∃b,v=PtB b/\F b/\
  ((∃(kd:By) (ng:Bool) (ds:By) (x:Int) (s:By),OB w b kd ng ds x s AE AE/\(kd==[97,114,114,97,121])=false/\(kd==[111,98,106,101,99,116])=false/\cP d)\/
  (∃(ds:List pL) (sl:Value) (ps:List Value),d=Ak ds/\OB w b sW false [] 0 [] AE sl/\w.ownsRow 0 66 1 sl ps.length ps/\(∀g,sl.ownBlock=some g->F g)/\Al (RO F w) ps ds)\/
  (∃f es E,d=.map E/\ROb F w b f es E)):=by
 obtain⟨b,rfl,hb,h⟩:=hro.cases;refine⟨b,rfl,hb,?_⟩;rcases h with⟨k,hk,rfl,h⟩|⟨n,rfl,_,h⟩|⟨s,rfl,h⟩|h|h
 .refine Å ⟨_,_,_,_,_,h,?_,?_,⟨(λ_ _ e=>by cases e),(λ_ e=>by cases e)⟩⟩<;>(match k,hk with
   |0,_=>rfl
   |1,_=>rfl
   |2,_=>rfl)
 .exact Å ⟨_,_,_,_,_,h,rfl,rfl,⟨(λ_ _ e=>by cases e),(λ_ e=>by cases e)⟩⟩
 .exact Å ⟨_,_,_,_,_,h,rfl,rfl,⟨(λ_ _ e=>by cases e),(λ_ e=>by cases e)⟩⟩
 .exact À (Å h)
 .exact À (À h)
def Lw(F:Nat->Prop)(d:pL)(e:Ending)(w':AT):Prop:=∃p,e=.returned (.pointer p)/\RO F w' (.pointer p) d
theorem MJ{f:Nat}{es:Ms}{E:List (Lit×pL)}(h:ROb F w b f es E)(hu:RO F w u y)(hF:∀k,w.1.size<=k->F k)(hn:E.length<=1000000)(key:By):
  A1 AI 98 #[PtB b,.string ⟨key.toArray⟩,u] w λe w'=>Lw F (.map (qI (.string key) y E)) e w'/\Bl w w':=by
 obtain⟨f1,o,u1,u2,rfl⟩:=hu;obtain⟨h1,h2,h3,h4,h5,h6,kl,sl,ps,a1,a2,a3,a4,a5,a6⟩:=h.up (Nat.le_max_left f f1);refine(VZ a1 a2 a4 a6 hF ζ key (u1.up (AS f f1))).mono ?_;rintro e w' ⟨p,rfl,hr,hb⟩;refine⟨⟨p,rfl,_,_,hr,À (À (À (À ⟨_,rfl,Nk key o h4,λq hq=>?_⟩))),?_⟩,hb⟩
 .rcases dM hq with hq|rfl
  .exact h5 q hq
  .exact goO.up u2 (AS f f1)
 .rw[fT _ h4 h1 key o,FB f1 _ o u2 (AS f f1)]
theorem LG{f:Nat}{es:Ms}{E:List (Lit×pL)}(h:ROb F w b f es E)(hF:∀k,w.1.size<=k->F k)(hn:E.length<=1000000)(key:By):
  A1 AI 97 #[PtB b,.string ⟨key.toArray⟩] w λe w'=>Lw F (.map (qY (.string key) E)) e w'/\Bl w w':=by
 obtain⟨h1,h2,h3,h4,h5,h6,kl,sl,ps,a1,a2,a3,a4,a5,a6⟩:=h;refine(Po a1 a2 a4 a6 a3 a5 hF ζ key).mono ?_;rintro e w' ⟨p,rfl,hr,hb⟩;exact⟨⟨p,rfl,_,_,hr,À (À (À (À ⟨_,rfl,LF key h4,λq hq=>h5 q (Đ.1 hq).1⟩))),Zl f h4 h1 key⟩,hb⟩
def Nj(F:Nat->Prop)(r:Except Nat pL)(e:Ending)(w':AT):Prop:=match r with
 |.ok y=>∃p,e=.returned (.tuple #[.pointer p,InB 0])/\RO F w' (.pointer p) y
 |.error c=>e=.returned (.tuple #[.pointer none,InB c])
theorem M3(l:List By)(ht:∀t∈l,t.length<=1048576)(h:RO F w v d)(hs:Sz 1000000 d)(hl:Bk w lv l):
  A1 AI 69 #[v,lv] w λe w'=>Nj F (Ag d l) e w'/\Bl w w':=by
 obtain⟨f,o,h1,h2,rfl⟩:=h;refine(Hf (F:=F) l ht f o w v lv h1 h2 (hs.can h2) hl).mono λe w' ⟨he,hb⟩=>?_;refine⟨?_,hb⟩;rcases I1 l f o h2 with⟨y,f',e1,e2,e3,e4⟩|⟨c,_,e1,e2⟩
 .rw[e1]at he;obtain⟨u,f2,rfl,e5,e6⟩:=he;obtain rfl:f2=f':=ζ;obtain⟨bu,rfl,_⟩:=e6.ptr;rw[e4];exact⟨_,rfl,f2,y,e6,e3,rfl⟩
 .rw[e1]at he;rw[e2];exact he
theorem dA{t:By}{i:Nat}(h:qG t=some i)(hi:i<=1000000):tD t=(i:Int):=by unfold tD;rw[h];simp only;omega
theorem Qx{ds:List pL}(h:qA (Ak ds) t=.ok y):∃i,qG t=some i/\i<ds.length/\ds[i]?=some y:=by
 unfold qA Ak at h;simp only at h;split at h
 .cases h
 .rename_i i hi;split at h
  .rename_i x hx;cases h;exact⟨i,hi,(ß.1 hx).1,hx⟩
  .cases h
theorem O0{x:Option Addr}{w:AT}:G4 (w.alloc (.cells #[.pointer x] 66)) (.slice (some ⟨w.1.size,0,none⟩) 1 1) [Value.pointer x].length [.pointer x]:=
 ⟨rfl,λu hu=>⟨x,by simpa using hu⟩,À ⟨w.1.size,0,1,rfl,φ,λj u hj=>by
  have h:=Ö (cs:=#[.pointer x]) (t:=66) (fr:=(0,0)) (Ê w (.cells #[.pointer x] 66)) j u hj;rwa [Addr.add_lit]at h⟩⟩
theorem WS(hro:RO F w v d)(hs:Sz 1000000 d)(hc:qA d t=.ok y)(hu:RO F w u z)(hF:∀k,w.1.size<=k->F k)(ht:t.length<=1048576):
  A1 AI 177 #[v,.string ⟨t.toArray⟩,u] w λe w'=>Lw F (G8 d t z) e w'/\Bl w w':=by
 obtain⟨b,rfl,hb,h⟩:=hro.three;rcases h with⟨kd,ng,ds,x,s,h,_,_,hl⟩|⟨ds,sl,ps,rfl,h,ho,hsl,hal⟩|⟨f,es,E,rfl,h⟩
 .rw[hl.child]at hc;cases hc
 .obtain⟨i,hi,q7,_⟩:=Qx hc;have q0:ds.length<=1000000:=hs.few;obtain⟨xu,rfl⟩:∃xu,u=.pointer xu:=by obtain⟨bu,rfl,_⟩:=hu.ptr;exact⟨_,rfl⟩
  have c0:=h.c0;rw[J9]at c0;have HI:=Ab (F6 t ht w);rw[dA hi ζ]at HI;have HC:=Ab (λw2 (hb2:Bl w w2)=>La (b:=b) (lo:=i) (hi:=i+1) (F:=F) (w:=w2.alloc (.cells #[.pointer xu] 66)) (xv:=.slice (some ⟨w2.1.size,0,none⟩) 1 1) (sl:=sl) (ps:=ps) (ms:=[.pointer xu]) (ds:=ds) (es:=[z])
   (h.kept ((hb2.alloc hb2.size _).block _ h.lt)) (Am ho λg hg=>(hb2.alloc hb2.size _).block g (Af ho g hg).1) (hal.mono λ_ _ r=>r.bel (hb2.alloc hb2.size _)) (λk hk=>hF k (by have:=hb2.size;simp at hk;omega)) q0 ζ ζ O0 ⟨hu.bel (hb2.alloc hb2.size _),trivial⟩ φ)
  have HE:=Ab (show G8 (Ak ds) t z=Ak (ds.take i++[z]++ds.drop (i+1)) by
   unfold G8 Dp uN Ak;rw[hi];simp only[Ģ];rw[List.set_eq_take_append_cons_drop,if_pos q7];simp)
  have q8:IntKind.i64.wrap ((i:Int)+1)=((i+1:Nat):Int):=by rw[Č];omega
  clear hro h ho hsl hal hc hu hF hs hi;go_enter func177,ntmps177;go_wp2_with fail;refine HI.u.mono ?_;rintro e w2⟨rfl,hb2⟩;have q4:=Ab hb2;have q6:=Ab (HC.u w2 hb2);clear hb2;go_wp2_with fail;refine q6.u.mono ?_;rintro e w3⟨p,rfl,hr,hb3⟩;have q5:=Ab ((q4.u.alloc q4.u.size _).trans (hb3.mono (q4.u.alloc q4.u.size _).size));have HR:=Ab hr;clear hb3 hr;go_wp2;go_ret;exact⟨⟨_,rfl,by rw[HE.u];exact HR.u⟩,q5.u⟩
 .have q0:E.length<=1000000:=by have:=hs.few;simpa[AW]using this
  have HW:=Ab (MJ h hu hF q0 t);have c0:CeB w b 0=some (.string ⟨sC.toArray⟩):=by obtain⟨_,_,_,_,_,_,_,_,_,h,_⟩:=h;exact h.c0
  rw[J8]at c0;clear hro h hu hF hs hc;go_enter func177,ntmps177;go_wp2_with fail;refine HW.u.mono ?_;rintro e w2⟨⟨p,rfl,hr⟩,hb2⟩;have HR:=Ab hr;have q4:=Ab hb2;clear hr hb2;go_wp2;go_ret;exact⟨⟨_,rfl,HR.u⟩,q4.u⟩
theorem cI(hro:RO F w v d)(hs:Sz 1000000 d)(hu:RO F w u z)(hF:∀k,w.1.size<=k->F k)(ht:t.length<=1048576):
  A1 AI 175 #[v,.string ⟨t.toArray⟩,u] w λe w'=>Nj F (EY d t z) e w'/\Bl w w':=by
 obtain⟨b,rfl,hb,h⟩:=hro.three;obtain⟨xu,rfl⟩:∃xu,u=.pointer xu:=by obtain⟨bu,rfl,_⟩:=hu.ptr;exact⟨_,rfl⟩
 rcases h with⟨kd,ng,ds,x,s,h,qe,hk2,hl⟩|⟨ds,sl,ps,rfl,h,ho,hsl,hal⟩|⟨f,es,E,rfl,h⟩
 .have c0:=h.c0;have HE:=Ab (show EY d t z=.error 11 by
   unfold EY;split
   .exact absurd rfl (hl.2 _)
   .exact absurd rfl (hl.1 _ _)
   .rfl)
  clear hro h hl hu hF hs;go_enter func175,ntmps175;go_wp2;go_ret2;exact⟨by rw[HE.u];rfl,Â _ _⟩
 .have q4:ds.length<=1000000:=hs.few;have qb:=hal.length;have c0:=h.c0;rw[J9]at c0;obtain⟨n,hn⟩:∃n,n=ps.length:=⟨_,rfl⟩
  obtain⟨a,cap,hsl2⟩:∃a cap,sl=.slice a n cap:=by
   obtain⟨_,p,a,e,_⟩:=B0 ho;exact⟨a,p,by rw[e,hn]⟩
  have c6:=h.c6;rw[hsl2]at c6;have HI:=Ab (F6 t ht w);have HC:=Ab (λ(i:Nat) (hi:i<=ds.length) w2 (hb2:Bl w w2)=>La (b:=b) (lo:=i) (hi:=i) (F:=F) (w:=w2.alloc (.cells #[.pointer xu] 66)) (xv:=.slice (some ⟨w2.1.size,0,none⟩) 1 1) (sl:=sl) (ps:=ps) (ms:=[.pointer xu]) (ds:=ds) (es:=[z])
   (h.kept ((hb2.alloc hb2.size _).block _ h.lt)) (Am ho λg hg=>(hb2.alloc hb2.size _).block g (Af ho g hg).1) (hal.mono λ_ _ r=>r.bel (hb2.alloc hb2.size _)) (λk hk=>hF k (by have:=hb2.size;simp at hk;omega)) q4 ζ ζ O0 ⟨hu.bel (hb2.alloc hb2.size _),trivial⟩ φ)
  have HE:=Ab (show EY (Ak ds) t z=match Cc ds.length t with
   |.error c=>.error c
   |.ok i=>.ok (Ak (ds.take i++[z]++ds.drop i)) by
    unfold EY Ak;simp only;cases Cc ds.length t with
    |error c=>rfl
    |ok i=>simp[rN])
  have q9:=h.lt;obtain⟨ix,q6⟩:∃ix,ix=tD t:=⟨_,rfl⟩
  rw[<-q6]at HI;have hk:((t==[45])=true/\Cc ds.length t=.ok n)\/((t==[45])=false/\((Cc ds.length t=.error 12/\ix<0)\/(Cc ds.length t=.error 11/\¬ix<0/\(n:Int)<ix)\/∃i:Nat,Cc ds.length t=.ok i/\ix=i/\i<=n)):=by
   unfold Cc;by_cases h45:t=[45]
   .exact Å ⟨by simp[h45],by rw[if_pos h45,hn,qb]⟩
   .refine À ⟨by simpa using h45,?_⟩;rw[if_neg h45];cases hi:qG t with
    |none=>exact Å ⟨rfl,by rw[q6,Jg hi];omega⟩
    |some i=>
     have h1:ix=min (i:Int) 1000000000:=by rw[q6];unfold tD;rw[hi]
     by_cases h2:ds.length<i
     .exact À (Å ⟨by simp only[if_pos h2],ζ,ζ⟩)
     .exact À (À ⟨i,by simp only[if_neg h2],ζ,ζ⟩)
  have qd:n<=ds.length:=ζ;have hnn:¬(n:Int)<0:=ζ;have qf:¬(n:Int)<n:=ζ;have HN:=Ab qd;clear hro h ho hsl hal hu hF hs hn qb hsl2 q4 q6 qd;rcases hk with⟨e1,e2⟩|⟨e1,⟨e2,e3⟩|⟨e2,e3,e4⟩|⟨i,e2,rfl,e3⟩⟩
  .have q5:=Ab (HC.u n HN.u);rw[e2]at HE;clear HC HN e2;go_enter func175,ntmps175;go_wp2_with fail;refine HI.u.mono ?_;rintro e w2⟨rfl,hb2⟩;have d6:=(hb2.cell (p:=⟨b,6,none⟩) q9).trans c6;have q0:=Ab hb2;have q8:=Ab (q5.u w2 hb2);clear hb2 q5;go_wp2_with fail;refine q8.u.mono ?_;rintro e w3⟨p,rfl,hr,hb3⟩;have q7:=Ab ((q0.u.alloc q0.u.size _).trans (hb3.mono (q0.u.alloc q0.u.size _).size));have HR:=Ab hr;clear hb3 hr;go_wp2;go_ret2;exact⟨by rw[HE.u];exact⟨_,rfl,HR.u⟩,q7.u⟩
  .rw[e2]at HE;clear HC HN e2;go_enter func175,ntmps175;go_wp2_with fail;refine HI.u.mono ?_;rintro e w2⟨rfl,hb2⟩;have q0:=Ab hb2;clear hb2;go_wp2;go_ret2;exact⟨by rw[HE.u];rfl,q0.u⟩
  .rw[e2]at HE;clear HC HN e2;go_enter func175,ntmps175;go_wp2_with fail;refine HI.u.mono ?_;rintro e w2⟨rfl,hb2⟩;have d6:=(hb2.cell (p:=⟨b,6,none⟩) q9).trans c6;have q0:=Ab hb2;clear hb2;go_wp2;go_ret2;exact⟨by rw[HE.u];rfl,q0.u⟩
  .have q5:=Ab (HC.u i (Ã e3 HN.u));rw[e2]at HE;have e4:¬(i:Int)<0:=ζ;have e5:¬(n:Int)<i:=ζ;clear HC HN e2;go_enter func175,ntmps175;go_wp2_with fail;refine HI.u.mono ?_;rintro e w2⟨rfl,hb2⟩;have d6:=(hb2.cell (p:=⟨b,6,none⟩) q9).trans c6;have q0:=Ab hb2;have q8:=Ab (q5.u w2 hb2);clear hb2 q5;go_wp2_with fail;refine q8.u.mono ?_;rintro e w3⟨p,rfl,hr,hb3⟩;have q7:=Ab ((q0.u.alloc q0.u.size _).trans (hb3.mono (q0.u.alloc q0.u.size _).size));have HR:=Ab hr;clear hb3 hr;go_wp2;go_ret2;exact⟨by rw[HE.u];exact⟨_,rfl,HR.u⟩,q7.u⟩
 .have q4:E.length<=1000000:=by have:=hs.few;simpa[AW]using this
  have HW:=Ab (MJ h hu hF q4 t);have c0:CeB w b 0=some (.string ⟨sC.toArray⟩):=by obtain⟨_,_,_,_,_,_,_,_,_,h,_⟩:=h;exact h.c0
  rw[J8]at c0;clear hro h hu hF hs;go_enter func175,ntmps175;go_wp2_with fail;refine HW.u.mono ?_;rintro e w2⟨⟨p,rfl,hr⟩,hb2⟩;have HR:=Ab hr;have q0:=Ab hb2;clear hr hb2;go_wp2;go_ret2;exact⟨⟨_,rfl,HR.u⟩,q0.u⟩
end
section
variable{F:Nat->Prop}{k:Nat}
def QS(F:Nat->Prop)(k:Nat)(l:List By):Prop:=∀(w:AT) (v lv:Value) (d y:pL) (xu:Option Addr),RO F w v d->Sz 1000000 d->Bk w lv l->(k≠2->RO F w (.pointer xu) y)->(∀j,w.1.size<=j->F j) ->
 A1 AI 135 #[v,lv,InB k,.pointer xu] w λe w'=>Nj F (rI k y d l) e w'/\Bl w w'
theorem Tp(k:Nat)(y d:pL):rI k y d []=if k=2 then .error 11 else .ok y:=by unfold rI;rfl
theorem Lu(k:Nat)(y d:pL)(t:By)(r:List By):rI k y d (t::r)=if r=[]/\k=1 then EY d t y else match qA d t with
  |.error c=>.error c
  |.ok e=>if r=[]/\k=2 then .ok (LH d t)else match rI k y e r with
   |.error c=>.error c
   |.ok z=>.ok (G8 d t z):=by
 rw[rI];first|rfl|(congr 1<;>(first|rfl|(split<;>(first|rfl|congr 1))))
theorem Z9(d:pL)(t:By):Ag d [t]=match qA d t with|.ok e=>.ok e |.error c=>.error c:=rfl
theorem Yo{c:Nat}{t:By}{d y:pL}(h:EY d t y=.error c):c≠0:=by
 unfold EY at h;split at h
 .cases h
 .split at h
  .rename_i hs;cases h;exact K9 hs
  .cases h
 .injection h with h;omega
theorem Iz{c:Nat}{y:pL}:∀{l:List By}{d:pL},rI k y d l=.error c->c≠0
 |[],d,h=>by
  rw[Tp]at h;split at h
  .injection h with h;omega
  .cases h
 |t::r,d,h=>by
  rw[Lu]at h;split at h
  .exact Yo h
  .split at h
   .rename_i hc;cases h;have:=Dn hc;omega
   .split at h
    .cases h
    .split at h
     .rename_i hc;cases h;exact Iz hc
     .cases h
theorem Ry(hk:k=1\/k=2\/k=3):QS F k []:=by
 intro w v lv d y xu hv hs hl hy hF;obtain⟨a,c,rfl⟩:∃a c,lv=.slice a 0 c:=by
  rcases hl with⟨_,h⟩|⟨h,_⟩
  .exact h
  grind
 rw[Tp];have HY:=Ab hy;clear hv hs hl hy hF;by_cases h2:k=2
 .subst h2;clear HY;go_enter func135,ntmps135;go_wp2;go_ret2;exact⟨rfl,Â _ _⟩
 .have HR:=Ab (HY.u h2);rw[if_neg h2];have e1:((k:Int)==2)=false:=ε;clear HY hk h2;go_enter func135,ntmps135;go_wp2;go_ret2;exact⟨⟨_,rfl,HR.u⟩,Â _ _⟩
theorem Rz{t:By}(ht:t.length<=1048576):QS F 1 [t]:=by
 intro w v lv d y xu hv hs hl hy hF;obtain⟨g,off,cap,n,tl,rfl,hn,q4,q7,hc,q6,q5⟩:=hl.open;obtain rfl:n=0:=hn;have hA:=cI hv hs (hy η) hF ht;rw[Lu,if_pos ⟨rfl,rfl⟩];obtain⟨R,hR⟩:∃R,R=EY d t y:=⟨_,rfl⟩
 rw[<-hR]at hA |-;have HA:=Ab hA;clear hA hR hv hs hl hy hF q6 q5;go_enter func135,ntmps135;go_wp2_with fail;refine HA.u.mono λe w2 ⟨he,hb2⟩=>?_;have q0:=Ab hb2;clear hb2 HA;cases R with
 |ok z=>
  obtain⟨p,rfl,hr⟩:=he;have HR:=Ab hr;clear hr;go_wp2;go_ret2;exact⟨⟨_,rfl,HR.u⟩,q0.u⟩
 |error c=>
  obtain rfl:e=_:=he;go_wp2;go_ret2;exact⟨rfl,q0.u⟩
theorem VC{w:AT}{g off cap n:Nat}{t:By}{r:List By}(h:Bk w (.slice (some ⟨g,off,none⟩) (n+1) cap) (t::r))(q0:1<=cap)(q5:cap<=maxLen):Bk w (.slice (some ⟨g,off,none⟩) 1 cap) [t]:=by
 rcases h with⟨h,_⟩|⟨_,g',q6,q4,e,h1,h2,hg,hc⟩
 .cases h
 .injection e with e1 e2 e3;injection e1 with e1;injection e1 with e1 e4 e5;subst e1;subst e4;subst e3;exact À ⟨φ,g,off,cap,rfl,q0,q5,hg,λk hk=>by
   obtain rfl:k=0:=by simpa using hk
   exact hc 0 φ⟩
theorem Qz{t:By}{r:List By}(hk:k=1\/k=2\/k=3)(hno:¬(r=[]/\k=1))(hR:QS F k r)(ht:t.length<=1048576):QS F k (t::r):=by
 intro w v lv d y xu hv hs hl hy hF;obtain⟨g,off,cap,n,tl,rfl,hn,qy,qn,hc,q9,qd⟩:=hl.open;have q5:=Ab (M3 (F:=F) [t] ε hv hs (VC hl ζ qn));have z5:(1:Int)<=(cap:Int):=ζ;have z4:(cap:Int)<=9223372036854775807:=by unfold maxLen at qn;omega
 have z6:(n:Int)+1<=(cap:Int):=ζ;have e0:((n:Int)+1==0)=false:=θ;have hE:=Lu k y d t r;rw[if_neg hno]at hE;obtain⟨R,q8⟩:∃R,R=rI k y d (t::r):=⟨_,rfl⟩
 rw[<-q8]at hE |-;have f1:(((n:Int)+1==1)=true/\((k:Int)==1)=false)\/((n:Int)+1==1)=false:=by
  grind
 rw[Z9]at q5;obtain⟨bb,hvb,qm,_⟩:=hv.ptr;subst hvb;have qg:g<w.1.size:=by
  rcases hl with⟨h,_⟩|⟨_,g',z0,qw,e,h1,h2,hg,hc⟩
  .cases h
  grind
 cases hch:qA d t with
 |error c=>
  rw[hch]at q5 hE;simp only at hE q5;have HE:=Ab hE;have qf:((c:Int)!=0)=true:=by
   rw[bne_iff_ne];have:=Dn hch;omega
  clear hv hs hl hy hF hR hE q8 q9 qd hn hno hch;rcases f1 with⟨f1,f2⟩|f1;all_goals (
   go_enter func135,ntmps135;go_wp2_with fail;refine q5.u.mono ?_;rintro e w2⟨he,hb2⟩;obtain rfl:e=_:=he;have q0:=Ab hb2;clear hb2;go_wp2;go_ret2;exact⟨by rw[HE.u];rfl,q0.u⟩)
 |ok ev=>
  rw[hch]at q5 hE;simp only at hE q5;have qb:=hs.child hch;by_cases qh:r=[]/\k=2
  .obtain⟨rfl,rfl⟩:=qh;obtain rfl:n=0:=hn;rw[if_pos ⟨rfl,rfl⟩]at hE;have HE:=Ab hE;obtain⟨b,hb,z1,h⟩:=hv.three;injection hb with hb;cases hb;rcases h with⟨kd,ng,ds,x,s,h,_,_,qz⟩|⟨ds,sl,ps,rfl,h,ho,hsl,hal⟩|⟨f,es,E,rfl,h⟩
   .rw[qz.child]at hch;cases hch
   .obtain⟨i,hi,z7,_⟩:=Qx hch;have q6:ds.length<=1000000:=hs.few;have c0:=h.c0;rw[J9]at c0;have HI:=Ab (λw=>F6 t ht w);rw[dA hi ζ]at HI;have HC:=Ab (λw2 (hb2:Bl w w2)=>La (b:=bb) (lo:=i) (hi:=i+1) (F:=F) (w:=w2) (xv:=.slice none 0 0) (sl:=sl) (ps:=ps) (ms:=[]) (ds:=ds) (es:=[])
     (h.kept (hb2.block _ h.lt)) (Am ho λg hg=>hb2.block g (Af ho g hg).1) (hal.mono λ_ _ r=>r.bel hb2) (λk hk=>hF k (by have:=hb2.size;omega)) q6 ζ ζ ⟨rfl,λu hu=>by simp at hu,Å ⟨rfl,rfl⟩⟩ trivial φ)
    have HV:=Ab (show LH (Ak ds) t=Ak (ds.take i++[]++ds.drop (i+1)) by
     unfold LH EG uN Ak;rw[hi];simp[rH])
    have z8:IntKind.i64.wrap ((i:Int)+1)=((i+1:Nat):Int):=by rw[Č];omega
    clear hv hs hl hy hF hR hE q8 q9 qd hno hch h ho hal hsl hi qb f1;go_enter func135,ntmps135;go_wp2_with fail;refine q5.u.mono ?_;rintro e w2⟨⟨p,rfl,_⟩,hb2⟩;have d0:=(hb2.cell (p:=⟨bb,0,none⟩) qm).trans c0;have dc:=(hb2.cell (p:=⟨g,off,none⟩) qg).trans hc;have q0:=Ab hb2;clear hb2;go_wp2_with fail;refine(HI.u _).mono ?_;rintro e w3⟨rfl,hb3⟩;have q4:=Ab (q0.u.trans (hb3.mono q0.u.size));have qr:=Ab (HC.u w3 q4.u);clear hb3 HC;go_wp2_with fail;refine qr.u.mono ?_;rintro e w4⟨p4,rfl,hr,hb4⟩;have qe:=Ab (q4.u.trans (hb4.mono q4.u.size));have HR:=Ab hr;clear hb4 hr;go_wp2;go_ret2;exact⟨by rw[HE.u,HV.u];exact⟨_,rfl,HR.u⟩,qe.u⟩
   .have q6:E.length<=1000000:=by have:=hs.few;simpa[AW]using this
    have c0:CeB w bb 0=some (.string ⟨sC.toArray⟩):=by obtain⟨_,_,_,_,_,_,_,_,_,h,_⟩:=h;exact h.c0
    rw[J8]at c0;have HW:=Ab (λw2 (hb2:Bl w w2)=>LG (h.bel hb2) (λk hk=>hF k (by have:=hb2.size;omega)) q6 t);clear hv hs hl hy hF hR hE q8 q9 qd hno hch h qb f1;go_enter func135,ntmps135;go_wp2_with fail;refine q5.u.mono ?_;rintro e w2⟨⟨p,rfl,_⟩,hb2⟩;have d0:=(hb2.cell (p:=⟨bb,0,none⟩) qm).trans c0;have dc:=(hb2.cell (p:=⟨g,off,none⟩) qg).trans hc;have q0:=Ab hb2;have qv:=Ab (HW.u w2 hb2);clear hb2 HW;go_wp2_with fail;refine qv.u.mono ?_;rintro e w3⟨⟨p3,rfl,hr⟩,hb3⟩;have q4:=Ab (q0.u.trans (hb3.mono q0.u.size));have HR:=Ab hr;clear hb3 hr;go_wp2;go_ret2;exact⟨by rw[HE.u];exact⟨_,rfl,HR.u⟩,q4.u⟩
  .rw[if_neg qh]at hE;have f2:(((n:Int)+1==1)=true/\((k:Int)==1)=false/\((k:Int)==2)=false)\/((n:Int)+1==1)=false:=by
    grind
   have HY:=Ab hy;have HF:=Ab hF;have q7:=Ab (λw2 (hb2:Bl w w2) p (hp:RO F w2 (.pointer p) ev)=>hR w2 (.pointer p) tl ev y xu hp qb (q9.bel hb2) (λh=>(HY.u h).bel hb2) (λj hj=>HF.u j (by have:=hb2.size;omega)));have qi:=Ab (λw2 (hb2:Bl w w2) p z (hp:RO F w2 (.pointer p) z)=>WS (hv.bel hb2) hs hch hp (λj hj=>HF.u j (by have:=hb2.size;omega)) ht);have HE:=Ab hE;have qj:=Ab (λc (h:rI k y ev r=.error c)=>Iz h);clear hv hs hl hy hF hR hE q8 q9 hn hno hch qb f1 qh;rcases qd with⟨rfl,rfl,rfl⟩|⟨z3,rfl⟩;all_goals rcases f2 with⟨f2,f3,f4⟩|f2
   all_goals first
    |(exfalso;revert f2;decide)
    |(
     go_enter func135,ntmps135;go_wp2_with fail;refine q5.u.mono ?_;rintro e w2⟨⟨p,rfl,hr⟩,hb2⟩;have dc:=(hb2.cell (p:=⟨g,off,none⟩) qg).trans hc;have q0:=Ab hb2;have qk:=Ab (q7.u w2 hb2 _ hr);have z2:=hb2.size;clear hb2 hr q7;go_wp2_with fail;refine qk.u.mono ?_;rintro e w3⟨he,hb3⟩;have dd:=(hb3.cell (p:=⟨g,off,none⟩) (show g<_ from ζ)).trans dc;have q4:=Ab (q0.u.trans (hb3.mono q0.u.size));obtain⟨Q,hQ⟩:∃Q,Q=rI k y ev r:=⟨_,rfl⟩
     rw[<-hQ]at he HE qj;clear hb3 qk hQ;cases Q with
     |error c=>
      obtain rfl:e=_:=he;have qf:((c:Int)!=0)=true:=by
       rw[bne_iff_ne];have:=qj.u c rfl;omega
      go_wp2;go_ret2;exact⟨by rw[HE.u];rfl,q4.u⟩
     |ok z=>
      obtain⟨p3,rfl,qo⟩:=he;have qt:=Ab (qi.u w3 q4.u _ z qo);clear qo qi;go_wp2_with fail;refine qt.u.mono ?_;rintro e w4⟨⟨p4,rfl,qq⟩,hb4⟩;have qe:=Ab (q4.u.trans (hb4.mono q4.u.size));have qu:=Ab qq;clear hb4 qq;go_wp2;go_ret2;exact⟨by rw[HE.u];exact⟨_,rfl,qu.u⟩,qe.u⟩)
theorem Du(hk:k=1\/k=2\/k=3):∀(l:List By),(∀t∈l,t.length<=1048576)->QS F k l
 |[],_=>Ry hk
 |t::r,ht=>by
  by_cases h:r=[]/\k=1
  .obtain⟨rfl,rfl⟩:=h;exact Rz (ht t φ)
  .exact Qz hk h (Du hk r λx hx=>ht x (by simp[hx])) (ht t φ)
end
section
variable{F:Nat->Prop}{w:AT}{v:Value}{d:pL}
def Fs(F:Nat->Prop)(w:AT)(r:Option pL)(e:Ending):Prop:=match r with
 |some y=>∃b,e=.returned (.pointer (some ⟨b,0,none⟩))/\b<w.1.size/\RO F w (.pointer (some ⟨b,0,none⟩)) y
 |none=>e=.returned (.pointer none)
theorem PZ(hro:RO F w v d)(key:By):A1 AI 95 #[v,.string ⟨key.toArray⟩] w λe w'=>Fs F w (Ao d key) e/\w'=w:=by
 obtain⟨b,rfl,hb,h⟩:=hro.three;rcases h with⟨kd,ng,ds,x,s,h,_,_,hl⟩|⟨ds,sl,ps,rfl,h,ho,hsl,hal⟩|⟨f,es,E,rfl,h⟩
 .have e:Ao d key=none:=by
   unfold Ao;split
   .exact absurd rfl (hl.2 _)
   .rfl
  rw[e];exact He h _
 .exact He h _
 .obtain⟨h1,h2,h3,h4,h5,h6,kl,sl,ps,a1,a2,a3,a4,a5,a6⟩:=h;have e:Ao (.map E) key=(qU key es).map (pO f):=h6 key;rw[e];have q5:ps.length=(es.map (·.1)).length:=by have:=a6.length;simpa using this
  refine(IO a1 (ks:=es.map (·.1)) (B1:=0) (by rw[æ,Ý];exact a2) a4 q5 key).mono ?_;rintro e w' ⟨rfl,rfl⟩;refine⟨?_,rfl⟩;rcases KC (k:=key) a6 with⟨y,hy,q0⟩|⟨hy,hu⟩
  .obtain⟨bb,q4,hlt,_⟩:=q0.ptr;rw[hy,q4];exact⟨bb,rfl,hlt,by show RO F _ (PtB bb) _;rw[<-q4];exact⟨f,y,q0,h5 _ (Cf hy),rfl⟩⟩
  .rw[hy,hu];rfl
theorem RO.str(hro:RO F w v d):∃b kd,v=.pointer (some ⟨b,0,none⟩)/\w.cell? ⟨b,0,none⟩=some (.string ⟨kd.toArray⟩)/\
  ((∃s,d=Av s/\w.cell? ⟨b,4,none⟩=some (.string ⟨s.toArray⟩)/\(kd==[115,116,114,105,110,103])=true)\/(BO (some d)=none/\(kd==[115,116,114,105,110,103])=false)):=by
 obtain⟨b,rfl,hb,h⟩:=hro.cases;rcases h with⟨k,hk,rfl,h⟩|⟨n,rfl,_,h⟩|⟨s,rfl,h⟩|⟨ds,sl,ps,rfl,h,_⟩|⟨f,es,E,rfl,h⟩
 .exact⟨b,_,rfl,h.c0,À ⟨rfl,by match k,hk with
   |0,_=>rfl
   |1,_=>rfl
   |2,_=>rfl⟩⟩
 .exact⟨b,_,rfl,h.c0,À ⟨rfl,rfl⟩⟩
 .exact⟨b,_,rfl,h.c0,Å ⟨s,rfl,h.c4,rfl⟩⟩
 .exact⟨b,_,rfl,h.c0,À ⟨rfl,rfl⟩⟩
 .obtain⟨_,_,_,_,_,_,_,_,_,h,_⟩:=h;exact⟨b,_,rfl,h.c0,À ⟨rfl,rfl⟩⟩
theorem VE{B:Nat}{s:By}(h:Sz B (Av s)):s.length<=B:=by
 obtain⟨D,x,f,lv,hg,hs⟩:=h;cases f with
 |zero=>exact hg.elim
 |succ f=>
  have h1:pV (f+1) (Av s)=(Ai s).length:=rfl;have:=vE s;omega
theorem Mc{B:Nat}{key:By}{y:pL}(h:Sz B d)(hm:Ao d key=some y):Sz B y:=by
 unfold Ao at hm;split at hm
 .rename_i es;refine h.child (t:=key) ?_;unfold qA;simp only;split at hm
  .rename_i hh;injection hm with hm;rw[if_pos hh,hm]
  .cases hm
 .cases hm
theorem Ue(h:RO F w v d)(hs:Sz 8000000000000 d)(key:By):
  A1 AI 174 #[v,.string ⟨key.toArray⟩] w λe w'=>FG w.1.size (AA (Ao d key)) e w'/\Bl w w':=by
 have HG:=Ab (PZ h key);have HS:=Ab (λy (hm:Ao d key=some y)=>Mc hs hm);obtain⟨R,hR⟩:∃R,R=Ao d key:=⟨_,rfl⟩
 rw[<-hR]at HG HS |-;clear h hs hR;go_enter func174,ntmps174;go_wp2_with fail;refine HG.u.mono ?_;rintro e w2⟨he,rfl⟩;cases R with
 |none=>
  obtain rfl:e=_:=he;clear HG HS;go_wp2_with fail;go_ret2;exact⟨rfl,Â _ _⟩
 |some y=>
  obtain⟨b,rfl,q8,hr⟩:=he;have q4:=HS.u y rfl;obtain⟨b',kd,q0,c0,hc⟩:=hr.str;injection q0 with q0;injection q0 with q0;injection q0 with q0;subst q0;rcases hc with⟨s,rfl,c4,hk⟩|⟨hn,hk⟩
  .have hk2:(kd != [115,116,114,105,110,103])=false:=by simpa using hk
   have HT:=Ab (Hz s (by have:=VE q4;omega) w2);clear HG HS hr q4;go_wp2_with fail;refine HT.u.mono ?_;rintro e w3⟨he,hb3⟩;have q5:=Ab hb3;obtain⟨Q,hQ⟩:∃Q,Q=qX s:=⟨_,rfl⟩
   rw[<-hQ]at he;have HQ:=Ab hQ;clear hb3 HT hQ;cases Q with
   |none=>
    obtain rfl:e=_:=he;go_wp2_with fail;go_ret2;exact⟨by show FG _ (qX s) _ _;rw[<-HQ.u];rfl,q5.u⟩
   |some ks=>
    obtain⟨lv,rfl,q6⟩:=he;have q7:=Ab q6;clear q6;go_wp2_with fail;go_ret2;exact⟨by show FG _ (qX s) _ _;rw[<-HQ.u];exact⟨_,rfl,q7.u⟩,q5.u⟩
  .have hk2:(kd != [115,116,114,105,110,103])=true:=by simpa using hk
   have HE:=Ab (show AA (some y)=none by unfold AA;rw[hn]);clear HG HS hr q4 hn;go_wp2_with fail;go_ret2;exact⟨by rw[HE.u];rfl,Â _ _⟩
end
