import Derived.Test.YtdpomdelmdofmaaGreatDoorP24
import Derived.Test.YtdpomdelmdofmaaGreatDoorP22
open Go renaming Value->AI,World->AS
open Go.Builtin renaming append_->AT
open Go.Proofs.Tryz renaming prog->A1
open Go.Value renaming pointer->A2
open List renaming getElem?_take->A3
open Go.DataW renaming insert->A4
open Go.World renaming setCell->A5,cell?->B2
open Go.Region renaming wanted->Bs
open Go.Lib renaming hasPrefix->BY,itoa->B3
open Go.Addr renaming add_lit->B1
set_option maxRecDepth 100000
set_option maxHeartbeats 16000000
namespace Go.Proofs.YtdpomdelmdofmaaGreatDoor
open Go.Proofs.Tryz Go.RowKit Go.Maps
variable{sl:AI}{g:Nat}{es:Ms}{E:List (Lit×pL)}{t:By}{P:Program}{o:Oper}{a:Act}{Q:Exit->Act->AS->Prop}{G:Nat->Prop}{xs:List AI}{ops:List qH}{x:Int}
theorem J9:sW=[97,114,114,97,121]:=rfl
theorem J8:sC=[111,98,106,101,99,116]:=rfl
def RO(F:Nat->Prop)(w:AS)(v:AI)(d:pL):Prop:=∃f o,Ar f F w v o/\qM f o/\pO f o=d
def ROb(F:Nat->Prop)(w:AS)(b f:Nat)(es:Ms)(E:List (Lit×pL)):Prop:=pO (f+1) (qF es)=.map E/\AQ E/\E.length=es.length/\(es.map (·.1)).Nodup/\(∀p∈es,qM f p.2)/\(∀k:By,Aq E (.string k)=(qU k es).map (pO f))/\
 ∃(kl sl:AI) (ps:List AI),OB w b sC false [] 0 [] kl sl/\w.ownsRow 0 9 1 kl es.length (es.map λp=>AG p.1)/\(∀g,kl.ownBlock=some g->F g)/\w.ownsRow 0 66 1 sl ps.length ps/\(∀g,sl.ownBlock=some g->F g)/\Al (Ar f F w) ps (es.map (·.2))
section
variable{F F':Nat->Prop}{w w':AS}{v:AI}{d:pL}{b:Nat}
theorem RO.move(h:RO F w v d)(hF:∀k,F k->k<w.1.size->w'.1[k]?=w.1[k]?/\F' k):RO F' w' v d:=by
 obtain⟨f,o,h1,h2⟩:=h;exact⟨f,o,h1.move hF,h2⟩
theorem RO.bel(h:RO F w v d)(hb:Bl w w'):RO F w' v d:=h.move λk h1 h2=>⟨hb.block k h2,h1⟩
theorem RO.ptr(h:RO F w v d):∃b,v=PtB b/\b<w.1.size/\F b:=by
 obtain⟨f,o,h1,_⟩:=h;exact h1.ptr
theorem Sf:∀{ps:List AI}{ds:List pL},Al (RO F w) ps ds ->∃f es,Al (Ar f F w) ps es/\(∀e∈es,qM f e)/\es.map (pO f)=ds
 |[],[],_=>⟨0,[],trivial,φ,rfl⟩
 |p::ps,e::ds,⟨⟨f1,o,h1,h2,h3⟩,h⟩=>by
  obtain⟨f2,es,a1,a2,a3⟩:=Sf h;refine⟨max f1 f2,o::es,⟨h1.up ζ,a1.mono λ_ _ q=>q.up ζ⟩,λe he=>?_,?_⟩
  .rcases Ë.1 he with rfl|he
   .exact goO.up h2 ζ
   .exact goO.up (a2 e he) ζ
  .rw[Ð,FB f1 _ o h2 ζ,h3,ä λe he=>FB f2 _ e (a2 e he) ζ,a3]
theorem VX{f:Nat}:∀{ps:List AI}{es:List O},Al (Ar f F w) ps es->(∀e∈es,qM f e)->Al (RO F w) ps (es.map (pO f))
 |[],[],_,_=>trivial
 |_::_,_::_,⟨h1,h2⟩,h=>⟨⟨f,_,h1,h _ φ,rfl⟩,VX h2 λe he=>h e (by simp[he])⟩
theorem kG{ps:List AI}{ds:List pL}(hb:F b)(h:OB w b sW false [] 0 [] AE sl)(ho:w.ownsRow 0 66 1 sl ps.length ps)(hs:∀g,sl.ownBlock=some g->F g)(ha:Al (RO F w) ps ds):RO F w (PtB b) (Ak ds):=by
 obtain⟨f,es,a1,a2,rfl⟩:=Sf ha;exact⟨f+1,rK es,⟨b,rfl,hb,À (À (À (Å ⟨es,sl,ps,rfl,h,ho,hs,a1⟩)))⟩,À (À (À (Å ⟨es,rfl,a2⟩))),rfl⟩
theorem RO.cases(h:RO F w v d):∃b,v=PtB b/\F b/\
  ((∃k,k<3/\d=BG k/\OB w b (rE.getD k []) false [] 0 [] AE AE)\/
  (∃n:Nm,d=Bm n/\(-400<=n.2.2/\n.2.2<=400)/\OB w b vC n.1 n.2.1 n.2.2 [] AE AE)\/
  (∃s,d=Av s/\OB w b vJ false [] 0 s AE AE)\/
  (∃(ds:List pL) (sl:AI) (ps:List AI),d=Ak ds/\OB w b sW false [] 0 [] AE sl/\w.ownsRow 0 66 1 sl ps.length ps/\(∀g,sl.ownBlock=some g->F g)/\Al (RO F w) ps ds)\/
  (∃f es E,d=.map E/\ROb F w b f es E)):=by
 obtain⟨f,o,h,hg,rfl⟩:=h;cases f with
 |zero=>exact h.elim
 |succ f=>
  obtain⟨b,rfl,hb,h⟩:=h;refine⟨b,rfl,hb,?_⟩;rcases h with⟨k,hk,rfl,h⟩|⟨n,x,rfl,h⟩|⟨s,rfl,h⟩|⟨es,sl,ps,rfl,h,ho,hs,ha⟩|⟨es,kl,sl,ps,rfl,h,ho,hs,ho2,hs2,ha⟩
  .exact Å ⟨k,hk,rfl,h⟩
  .obtain⟨rfl,h1⟩:=Hm hg;exact À (Å ⟨n,rfl,h1,h⟩)
  .exact À (À (Å ⟨s,rfl,h⟩))
  .exact À (À (À (Å ⟨_,sl,ps,rfl,h,ho,hs,VX ha (ES hg)⟩)))
  .obtain⟨h1,h2⟩:=ER hg;obtain⟨E,e1,e2,e3,e4⟩:=Gh f es h1;exact À (À (À (À ⟨f,es,E,e1,e1,e2,e3,h1,h2,e4,kl,sl,ps,h,ho,hs,ho2,hs2,ha⟩)))
theorem ROb.up{f:Nat}(h:ROb F w b f es E)(hg:f<=g):ROb F w b g es E:=by
 obtain⟨h1,h2,h3,h4,h5,h6,kl,sl,ps,a1,a2,a3,a4,a5,a6⟩:=h;have e:pO (g+1) (qF es)=pO (f+1) (qF es):=FB (f+1) (g+1) _ (À (À (À (À ⟨es,rfl,h4,h5⟩)))) ζ;refine⟨by rw[e,h1],h2,h3,h4,λp hp=>goO.up (h5 p hp) hg,λk=>?_,kl,sl,ps,a1,a2,a3,a4,a5,a6.mono λ_ _ q=>q.up hg⟩;rw[h6];cases hm:qU k es with
 |none=>rfl
 |some y=>exact congrArg some (FB f g y (h5 _ (Cf hm)) hg).symm
theorem ROb.bel{f:Nat}(h:ROb F w b f es E)(hb:Bl w w'):ROb F w' b f es E:=by
 obtain⟨h1,h2,h3,h4,h5,h6,kl,sl,ps,a1,a2,a3,a4,a5,a6⟩:=h;exact⟨h1,h2,h3,h4,h5,h6,kl,sl,ps,a1.kept (hb.block _ a1.lt),Am a2 (λg hg=>hb.block g (Af a2 g hg).1),a3,Am a4 (λg hg=>hb.block g (Af a4 g hg).1),a5,a6.mono λ_ _ q=>q.below hb⟩
theorem ROb.ro{f:Nat}(h:ROb F w b f es E)(hb:F b):RO F w (PtB b) (.map E):=by
 obtain⟨h1,h2,h3,h4,h5,h6,kl,sl,ps,a1,a2,a3,a4,a5,a6⟩:=h;exact⟨f+1,qF es,⟨b,rfl,hb,À (À (À (À ⟨es,kl,sl,ps,rfl,a1,a2,a3,a4,a5,a6⟩)))⟩,À (À (À (À ⟨es,rfl,h4,h5⟩))),h1⟩
end
def Sz(B:Nat)(d:pL):Prop:=∃(D x:Int) (f:Nat) (lv:Int),pU D x f lv d/\pV f d<=B
section
variable{B:Nat}{d e:pL}
theorem Sz.kid{i:Nat}(h:Sz B d)(he:(AW d)[i]?=some e):Sz B e:=by
 obtain⟨D,x,f,lv,hg,hs⟩:=h;cases f with
 |zero=>exact hg.elim
 |succ f=>exact⟨D,x,f,lv+1,Et hg he,Ã (LM (p:=[i]) hg (by simp[BD,he])) hs⟩
theorem Sz.few(h:Sz B d):(AW d).length<=B:=by
 obtain⟨D,x,f,lv,hg,hs⟩:=h;cases f with
 |zero=>exact hg.elim
 |succ f=>grind [AW,Iq]
theorem Sz.child(h:Sz B d)(hc:qA d t=.ok e):Sz B e:=by
 obtain⟨D,x,f,lv,hg,hs⟩:=h;cases f with
 |zero=>exact hg.elim
 |succ f=>
  obtain⟨i,_,h2⟩:=Kk hg hc;exact Sz.kid ⟨D,x,f+1,lv,hg,hs⟩ h2
theorem Sz.can{f:Nat}{o:O}(h:Sz B (pO f o))(hg:qM f o):(pP f (pO f o)).length<=B:=by
 obtain⟨D,x,g,lv,q0,hs⟩:=h;have e1:=MB f (max f g) o hg ζ;have e2:=Ew g (max f g) lv _ q0 ζ;have:=(Dz q0).1;rw[<-e1,e2];omega
end
structure Kp(A:Nat)(w0 w:AS)(vs:List AI)(sl:AI):Prop where
 ob:OB w A sW false [] 0 [] AE sl
 ov:w.ownsRow (A+1) 66 1 sl vs.length vs
 bel:Below A w0 w
 sz:A<w.1.size
def G4(w:AS)(x:AI)(m:Nat)(q0:List AI):Prop:=q0.length=m/\(∀u∈q0,∃p,u=.pointer p)/\((m=0/\x=.slice none 0 0)\/∃g o c,x=.slice (some ⟨g,o,none⟩) m c/\g<w.1.size/\∀j u,q0[j]?=some u->w.cell? ⟨g,o+j,none⟩=some u)
theorem G4.bel{w w':AS}{x:AI}{m:Nat}{q0:List AI}(h:G4 w x m q0)(hb:Bl w w'):G4 w' x m q0:=by
 obtain⟨h1,h2,h⟩:=h;refine⟨h1,h2,h.imp id λ⟨g,o,c,e,h3,h4⟩=>⟨g,o,c,e,Õ h3 hb.size,λj u hj=>(hb.cell (p:=⟨g,o+j,none⟩) h3).trans (h4 j u hj)⟩⟩
theorem Kp.more{A m:Nat}{w0 w:AS}{vs q0:List AI}{x:AI}(h:Kp A w0 w vs sl)(hA:A=w0.1.size)(hx:G4 w x m q0)(hl:vs.length+m<=10000000):
  ∃(a:Option Addr) (c:Nat) (w2 w3:AS),(AT #[89,89] 89 #[sl,x]).run A1 w=.ok (.slice a (vs.length+m) c) w2/\
   CeB w2 A 6=some sl/\w2.frozen? ⟨A,6,none⟩=false/\w2.setCell ⟨A,6,none⟩ (.slice a (vs.length+m) c)=w3/\Kp A w0 w3 (vs++q0) (.slice a (vs.length+m) c):=by
 obtain⟨i0,q4,hz0,q8,hz2⟩:=ę L7;obtain⟨hn,hp,hx⟩:=hx;have hsz:=h.sz;have q9:∀k,sl.ownBlock=some k->A+1<=k:=λk hk=>(Af h.ov k hk).2;obtain⟨v',w2,hr,how,hg,q7⟩:∃v' w2,(AT #[89,89] 89 #[sl,x]).run A1 w=.ok v' w2/\w2.ownsRow (A+1) 66 1 v' (vs.length+m) (vs++q0)/\w.grownBy w2 sl.ownBlock/\∃a c,v'=.slice a (vs.length+m) c:=by
  rcases hx with⟨rfl,rfl⟩|⟨g,o,c,rfl,hg,hc⟩
  .obtain rfl:q0=[]:=ε;obtain⟨g1,p1,a1,rfl,q6,qf,qe,qd⟩:=B0 h.ov;exact⟨_,w,run_append_nothing (P:=A1) w 89 89 89 66 i0 underlying89 q4 a1 vs.length p1 q6 _ (Src.ofNil w underlying89 0),by simpa using h.ov,⟨rfl,rfl,rfl,Á _,λ_ _ _=>rfl⟩,_,_,rfl⟩
  .obtain⟨v',w',h1,h2,h3,h4,h5⟩:=run_append_own_at (P:=A1) w (A+1) 89 89 66 i0 _ 1 8 underlying89 q4 hz0 q8 hz2 rfl η sl vs.length vs h.ov ⟨g,o,none⟩ m c q0 ζ (λj u hj=>by rw[B1];grind) (λu hu=>by obtain⟨p,rfl⟩:=hp u hu;rfl) (by unfold maxLen;omega) ζ ζ;obtain⟨g2,p2,a2,rfl,_⟩:=B0 h2;grind
 obtain⟨a,c,rfl⟩:=q7;have hne:some A≠sl.ownBlock:=ε;have q5:w2.1[A]?=w.1[A]?:=hg.block A hsz hne;refine⟨a,c,w2,_,hr,(hg.cell_far ⟨A,6,none⟩ hsz hne).trans h.ob.c6,(hg.frozen_far ⟨A,6,none⟩ hsz hne).trans (h.ob.fz 6),rfl,OB.set6 (h.ob.kept q5) _,?_,?_,?_⟩
 .rw[Ñ,hn];exact Am how λk hk=>Æ _ _ _ _ (show k≠A by have:=(Af how k hk).2;omega)
 .have hb:=h.bel;have hs:=hg.size;have qb:=hb.size;exact⟨hg.os.trans hb.os,hg.tape.trans hb.tape,hg.output.trans hb.output,by simp[A5];omega,λk hk=>(Æ _ _ _ _ (show k≠A from ζ)).trans ((hg.block k ζ ε).trans (hb.block k hk))⟩
 .have hs:=hg.size;simp[A5];omega
theorem JC{w w':AS}{K:Act->AS->Prop}{s x:Operand}{t:TypeId}{v u r:AI}(ho:o.op=.call { callee:=.builtin .append,args:=#[s,x],argTypes:=#[t,t] })(hs:a.eval s=v)(hx:a.eval x=u)(hr:(AT #[t,t] o.type #[v,u]).run P w=.ok r w')(h:K (a.put o.dst r) w'):o.wp P a w K Q:=by
 unfold Oper.wp execOp;simp only[ho,resolve,invoke,builtin,Sem.run_bind,Sem.run_pure,Result.andThen_ok,List.map_toArray,Ð,ÿ,hs,hx,hr];exact h
theorem KM{w w':AS}{ops:Array Oper}{rest:List Oper}(q0:o.guard=none)(s x:Operand)(t:TypeId)(ho:o.op=.call { callee:=.builtin .append,args:=#[s,x],argTypes:=#[t,t] })(v u r:AI)(hs:a.eval s=v)(hx:a.eval x=u)(hr:(AT #[t,t] o.type #[v,u]).run P w=.ok r w')(h:wpList P ops Q rest (a.put o.dst r) w'):wpList P ops Q (o::rest) a w:=wpList_plain q0 λ_ hK=>JC ho hs hx hr (hK _ _ h)
theorem Hb{w w':AS}{ops:Array Oper}{K:Act->AS->Prop}{E:Prop}(q0:o.guard=none)(s x:Operand)(t:TypeId)(ho:o.op=.call { callee:=.builtin .append,args:=#[s,x],argTypes:=#[t,t] })(v u r:AI)(hs:a.eval s=v)(hx:a.eval x=u)(hr:(AT #[t,t] o.type #[v,u]).run P w=.ok r w')(h:K (a.put o.dst r) w'):if Bs o (yielded ops a.tmps)=true then Oper.wp P o a w K Q else E:=by
 rw[if_pos (by simp[Bs,q0])];exact JC ho hs hx hr h
theorem La{b lo hi:Nat}{F:Nat->Prop}{w:AS}{xv:AI}{ps ms:List AI}{ds es:List pL}(h:OB w b sW false [] 0 [] AE sl)(ho:w.ownsRow 0 66 1 sl ps.length ps)(hal:Al (RO F w) ps ds)(hF:∀k,w.1.size<=k->F k)(hn:ds.length<=1000000)(qu:lo<=ds.length)(qr:hi<=ds.length)(hx:G4 w xv ms.length ms)(qk:Al (RO F w) ms es)(qj:ms.length<=1000000):
  Calls A1 176 #[PtB b,InB lo,InB hi,xv] w λe w'=>∃p,e=.returned (.pointer p)/\RO F w' (.pointer p) (Ak (ds.take lo++es++ds.drop hi))/\Bl w w':=by
 have qt:=hal.length;obtain⟨A,hA⟩:∃A,A=w.1.size:=⟨_,rfl⟩
 obtain⟨w1,qg⟩:∃w1,w1=w.alloc (.cells #[.string ⟨#[97,114,114,97,121]⟩,.bool false,.string ⟨#[]⟩,InB 0,.string ⟨#[]⟩,.slice none 0 0,.slice none 0 0] 91):=⟨_,rfl⟩
 have q7:Kp A w w1 [] AE:=by
  subst hA;subst qg;exact⟨Ax _ _ _ rfl,å _ _ _ _,(Â _ _).alloc (Á _) _,φ⟩
 have q4:∀u∈ps,∃p,u=A2 p:=λu hu=>by
  obtain⟨k,hk,rfl⟩:=ù hu;obtain⟨b',e,_⟩:=(hal.get k hk ζ).ptr;exact⟨_,e⟩
 obtain⟨N,hN⟩:∃N,N=ps.length:=⟨_,rfl⟩
 have hcl:=h.c6;have qh:=h.lt;have qb:Bl w w1.drew:=by have:=q7.bel;rw[hA]at this;exact⟨this.os,this.tape,this.output,this.size,this.block⟩
 have qf:Kp A w w1.drew [] AE:=⟨q7.ob,q7.ov,by rw[hA];exact qb,q7.sz⟩
 have hb3:∀W vs u,Kp A w W vs u->Bl w W:=λW vs u q=>by have:=q.bel;rwa [hA]at this
 have q9:∀W u,Kp A w W ((([]++ps.take lo)++ms)++ps.drop hi) u->RO F W (PtB A) (Ak (ds.take lo++es++ds.drop hi)):=λW u q=>by
  have hb:=hb3 _ _ _ q;have hm:∀{v o},RO F w v o->RO F W v o:=λr=>r.bel hb;refine kG (hF _ ζ) q.ob (PA q.ov) (λk hk=>hF _ (by have:=(Af q.ov k hk).2;omega)) ?_;rw[Ù];exact Al.append (Al.append ((hal.take lo).mono λ_ _ r=>hm r) (qk.mono λ_ _ r=>hm r)) ((hal.drop hi).mono λ_ _ r=>hm r)
 have qd:(ps.take lo).length=lo:=ω;have qe:(ps.drop hi).length=N-hi:=ω;have hin:∀u∈ps.take lo,∃p,u=A2 p:=λu hu=>q4 u (List.mem_of_mem_take hu);have q0:∀u∈ps.drop hi,∃p,u=A2 p:=λu hu=>q4 u (List.mem_of_mem_drop hu);have qy:hi<=N:=ζ;have qz:lo<=N:=ζ;have HA:=Ab hA;have qm:=Ab qg;have qq:(CeB w b 6=some (.slice none 0 0)/\lo=0/\hi=0/\N=0/\G4 w (.slice none 0 0) lo (ps.take lo)/\G4 w (.slice none 0 0) (N-hi) (ps.drop hi))\/(∃(g cap:Nat),CeB w b 6=some (SlB g N cap)/\(cap:Int)<=9223372036854775807/\(lo:Int)<=(cap:Int)/\(hi:Int)<=(N:Int)/\(N:Int)<=(cap:Int)/\
   G4 w (SlB g lo cap) lo (ps.take lo)/\((cap=hi/\G4 w (SlB g (N-hi) 0) (N-hi) (ps.drop hi))\/(¬cap=hi/\G4 w (.slice (some ⟨g,hi,none⟩) (N-hi) (cap-hi)) (N-hi) (ps.drop hi)))):=by
  rcases ho.2 with⟨e,h0⟩|⟨g,cap,cur,e,_,hg,h4,h5,h6,h7⟩
  .rw[e]at hcl;exact Å ⟨hcl,ζ,ζ,ζ,⟨qd,hin,Å ⟨ζ,rfl⟩⟩,⟨qe,q0,Å ⟨ζ,rfl⟩⟩⟩
  .have qi:g<w.1.size:=(È.1 hg).1;have q8:∀j u,ps[j]?=some u->CeB w g j=some u:=λj u hj=>by
    have:=ho.cells (g:=g) (by rw[e];rfl) j u hj;rwa [B1,ė]at this
   rw[e,<-hN]at hcl;refine À ⟨g,cap,hcl,by unfold maxLen at h5;omega,ζ,ζ,ζ,⟨qd,hin,À ⟨g,0,cap,rfl,qi,λj u hj=>?_⟩⟩,?_⟩
   .rw[A3]at hj;split at hj
    .rw[ė];exact q8 j u hj
    .cases hj
   by_cases hch:cap=hi
   .refine Å ⟨hch,qe,q0,À ⟨g,0,0,rfl,qi,λj u hj=>?_⟩⟩;obtain⟨h9,_⟩:=ß.1 hj;omega
   .exact À ⟨hch,qe,q0,ε⟩
 clear hcl;rcases qq with⟨hcl,rfl,rfl,rfl,y1,y3⟩|⟨g,cap,hcl,f1,f2,f3,f4,y1,⟨rfl,y3⟩|⟨hch,y3⟩⟩;all_goals (
  have qv:ms.length<=1000000:=qj;obtain⟨a1,c1,w2,w3,r1,q1,z1,s1,I3⟩:=qf.more hA (y1.bel qb) (by simp<;>omega);obtain⟨a2,c2,w4,w5,r2,q2,z2,s2,I5⟩:=I3.more hA (hx.bel (hb3 _ _ _ I3)) ω;have q6:Kp A w w5.drew _ _:=⟨I5.ob,I5.ov,⟨I5.bel.os,I5.bel.tape,I5.bel.output,I5.bel.size,I5.bel.block⟩,I5.sz⟩
  obtain⟨a3,c3,w6,w7,r3,q3,z3,s3,I7⟩:=q6.more hA (y3.bel (hb3 _ _ _ q6)) ω;have qw:=qf.ob.c6;have qn:=I3.ob.c6;have qo:=q6.ob.c6;have b1:=(qb.cell (p:=⟨b,6,none⟩) qh).trans hcl;have b5:=((hb3 _ _ _ q6).cell (p:=⟨b,6,none⟩) qh).trans hcl;have q5:=Ab (ð (q9 _ _ I7) (hb3 _ _ _ I7));simp only[á,Ù,qd,Ñ,ė,Nat.add_zero,ő]at r1 r2 r3 s1 s2 s3 qn qo q2 q3;clear h ho hal hF hx qk q7 q4 qb qf hb3 q9 qd qe hin q0 y1 y3 I3 I5 q6 I7 hN qt hA qg hcl hn qu qr qj qv;go_enter func176,ntmps176;go_wp2_with fail;rw[<-qm.u,<-HA.u];go_region_law ((refine Hb θ _ _ _ θ _ _ _ θ θ r1 ?_));all_goals (
   go_wp2_with (at_builtin;refine KM rfl _ _ _ rfl _ _ _ rfl rfl r2 ?_);go_region_law ((refine Hb θ _ _ _ θ _ _ _ θ θ r3 ?_));all_goals (
    go_wp2;go_ret;exact⟨_,rfl,q5.u.1,q5.u.2⟩)))
def D4(w:AS)(G:Nat->Prop)(xs:List AI)(ops:List qH):Prop:=∀i (h:i<ops.length),∃pa pl pc fa fl fc y,Jx w G ops[i] pa pl pc fa fl fc y/\xs[i*4]?=some (InB ops[i].1)/\xs[i*4+1]?=some (.slice pa pl pc)/\xs[i*4+2]?=some (.slice fa fl fc)/\xs[i*4+3]?=some (.pointer y)
theorem D4.move{w w':AS}{G':Nat->Prop}(h:D4 w G xs ops)(hk:∀k,G k->k<w.1.size->w'.1[k]?=w.1[k]?/\G' k):D4 w' G' xs ops:=λi hi=>by
 obtain⟨pa,pl,pc,fa,fl,fc,y,h1,h2⟩:=h i hi;exact⟨pa,pl,pc,fa,fl,fc,y,h1.move hk,h2⟩
theorem D4.snoc{w:AS}{o:qH}{pa fa y:Option Addr}{pl pc fl fc:Nat}(h:D4 w G xs ops)(hl:xs.length=ops.length*4)(ho:Jx w G o pa pl pc fa fl fc y):
  D4 w G (xs++[InB o.1,.slice pa pl pc,.slice fa fl fc,.pointer y]) (ops++[o]):=λi hi=>by
 by_cases hlt:i<ops.length
 .obtain⟨pa,pl,pc,fa,fl,fc,y,h1,h2,h3,h4,h5⟩:=h i hlt;grind
 grind
theorem F7{w:AS}{B e n:Nat}{v:AI}(h:w.ownsRow B e 4 v n xs):∃ao cap g,v=.slice ao n cap/\(0<n->ao=some ⟨g,0,none⟩/\v.ownBlock=some g/\B<=g/\∀k (hk:k<xs.length),CeB w g k=some xs[k]):=by
 obtain⟨q4,h⟩:=h;rcases h with⟨h1,h0⟩|⟨g,cap,cur,h1,hB,h3,h4,h5,h6,h7⟩
 .simp_all
 .refine⟨_,cap,g,h1,λ_=>⟨rfl,by rw[h1];rfl,hB,λk hk=>?_⟩⟩;have h8:cur.toList[k]?=some xs[k]:=by
   grind
  have q0:cur[k]?=some xs[k]:=ε;simp[B2,h3,q0]
theorem D4.mem{w:AS}(h:D4 w G xs ops)(hc:0<ops.length ->∀k (hk:k<xs.length),CeB w g k=some xs[k]):ME w G g ops:=λi hi=>by
 obtain⟨pa,pl,pc,fa,fl,fc,y,h1,h2,h3,h4,h5⟩:=h i hi;grind
def DR(F:Nat->Prop)(d:pL)(w:AS)(e:Ending)(w':AS):Prop:=match A7 d with
 |.error i=>e=.returned (.tuple #[.slice none 0 0,InB i,.bool false])
 |.ok l=>∃ao g cap,e=.returned (.tuple #[.slice ao l.length cap,InB 0,.bool true])/\(0<l.length->ao=some ⟨g,0,none⟩/\w.1.size<=g)/\ME w' (λk=>(F k/\k<w.1.size)\/w.1.size<=k) g l
structure RdI(F:Nat->Prop)(w1:AS)(es:List pL)(k:Nat)(pv:AI)(xs:List AI)(ops:List qH)(W:AS):Prop where
 len:ops.length=k
 own:W.ownsRow w1.1.size 178 4 pv k xs
 bel:Bl w1 W
 rops:D4 W (λq=>((F q/\q<w1.1.size)\/w1.1.size<=q)/\pv.ownBlock≠some q) xs ops
 eq:Ba 0 es=match Ba k (es.drop k)with
  |.ok l=>.ok (ops++l)
  |.error c=>.error c
theorem RdI.next{F:Nat->Prop}{w1:AS}{es:List pL}{k:Nat}{pv q4:AI}{W W4 W5:AS}{o:qH}{pa fa y:Option Addr}{pl pc fl fc:Nat}(h:RdI F w1 es k pv xs ops W)(hk:k<es.length)(ho:Bf es[k]=some o)(hb:Bl W W4)(q6:Jx W4 (λq=>((F q/\q<w1.1.size)/\q<W.1.size)\/W.1.size<q) o pa pl pc fa fl fc y)(q5:W5.ownsRow w1.1.size 178 4 q4 (k+1) (xs++[InB o.1,.slice pa pl pc,.slice fa fl fc,.pointer y]))(hg:W4.grownBy W5 pv.ownBlock)(q8:q4.ownBlock=pv.ownBlock\/q4.ownBlock=some W4.1.size):
  RdI F w1 es (k+1) q4 (xs++[InB o.1,.slice pa pl pc,.slice fa fl fc,.pointer y]) (ops++[o]) W5:=by
 have hsz:=h.bel.size;have q7:∀g,pv.ownBlock=some g->g<W.1.size/\w1.1.size<=g:=λg hg=>Bt h.own g hg;have hne:∀q,q<W4.1.size->pv.ownBlock≠some q->q4.ownBlock≠some q:=ε;refine⟨by simp[h.len],q5,(h.bel.trans (hb.mono hsz)).grown hg (Ã hsz hb.size) ε,?_,?_⟩
 .refine D4.snoc ((h.rops.move (w':=W4) (G':=λq=>(((F q/\q<w1.1.size)\/w1.1.size<=q)/\pv.ownBlock≠some q)) λq hq q0=>⟨hb.block q q0,hq⟩).move λq hq q0=>⟨hg.block q q0 λe=>hq.2 e.symm,hq.1,hne q q0 hq.2⟩) (by rw[h.own.1,h.len]) ?_;refine q6.move λq hq q0=>?_;have hr:pv.ownBlock≠some q:=ε;refine⟨hg.block q q0 λe=>hr e.symm,?_,hne q q0 hr⟩;grind
 .rw[h.eq,Û hk,Ba,ho];grind
theorem J4:∀(l:List Int) (a:Int),0<=a->rL a l=max a (BA l)
 |[],a,h=>by show a=max a 0;omega
 |x::r,a,h=>by
  show rL (max a x) r=max a (max x (BA r));rw[J4 r _ ζ];omega
theorem XA{l m:List Int}(h:l.Perm m):BA l=BA m:=by
 have h1:=DG (Dj m) (l:=l) λx hx=>Gj (h.mem_iff.1 hx);have h2:=DG (Dj l) (l:=m) λx hx=>Gj (h.mem_iff.2 hx);omega
theorem Qh:∀(f:Nat) (o:O),qM f o->qR f o=qD f (pO f o)
 |0,_,h=>h.elim
 |f+1,o,h=>by
  rcases h with⟨k,_,rfl⟩|⟨n,rfl,_⟩|⟨s,rfl⟩|⟨es,rfl,h⟩|⟨es,rfl,hnd,h⟩
  .rfl
  .rfl
  .rfl
  .show rL 0 (es.map (qR f))+1=1+BA ((es.map (pO f)).map (qD f));have:=Dj (es.map (qR f));rw[J4 _ _ (Ā _),Ý,ä λe he=>show(qD f ∘ pO f) e=qR f e from(Qh f e (h e he)).symm];omega
  .obtain⟨E,e1,e2,_⟩:=CG f es hnd;rw[e1];show rL 0 ((qK es).map λp=>qR f p.2)+1=1+BA (E.map λp=>qD f p.2);have h1:(qK es).map (λp=>qR f p.2)=es.map λp=>qR f p.2:=by unfold qK;simp_all
   have h2:=XA (e2.map λp=>qD f p.2);rw[Ý]at h2;have:=Dj (es.map λp=>qR f p.2);rw[h1,J4 _ _ (Ā _),h2,ä λp hp=>show((λp:Lit×pL=>qD f p.2) ∘ λp:By×O=>(Lit.string p.1,pO f p.2)) p=qR f p.2 from(Qh f p.2 (h p hp)).symm];omega
section
variable{F:Nat->Prop}{w:AS}{v:AI}{d:pL}
theorem LP{g:Nat}{Q:pL->Prop}(ih:∀v d,RO F w v d->Q d ->∃o,Ar g F w v o/\qM g o/\pO g o=d):∀{ps:List AI}{ds:List pL},Al (RO F w) ps ds->(∀e∈ds,Q e) ->∃es,Al (Ar g F w) ps es/\(∀e∈es,qM g e)/\es.map (pO g)=ds
 |[],[],_,_=>⟨[],trivial,φ,rfl⟩
 |p::ps,e::ds,⟨h1,h⟩,hq=>by
  obtain⟨o,a1,a2,a3⟩:=ih p e h1 (hq e φ);obtain⟨es,b1,b2,b3⟩:=LP ih h λx hx=>hq x (by simp[hx]);exact⟨o::es,⟨a1,b1⟩,λx hx=>by
   rcases Ë.1 hx with rfl|hx
   .exact a2
   .exact b2 x hx,by rw[Ð,a3,b3]⟩
theorem Nx{f g:Nat}{Q:pL->Prop}(ih:∀v d,RO F w v d->Q d ->∃o,Ar g F w v o/\qM g o/\pO g o=d):∀{ps:List AI}{es:Ms},Al (Ar f F w) ps (es.map (·.2))->(∀p∈es,qM f p.2)->(∀p∈es,Q (pO f p.2)) ->
  ∃es':Ms,es'.map (·.1)=es.map (·.1)/\Al (Ar g F w) ps (es'.map (·.2))/\(∀p∈es',qM g p.2)/\∀k,(qU k es').map (pO g)=(qU k es).map (pO f)
 |[],[],_,_,_=>⟨[],rfl,trivial,φ,λ_=>rfl⟩
 |p::ps,e::es,⟨h1,h⟩,hg,hq=>by
  obtain⟨o,a1,a2,a3⟩:=ih p _ ⟨f,e.2,h1,hg e φ,rfl⟩ (hq e φ);obtain⟨es',b1,b2,b3,b4⟩:=Nx ih h (λx hx=>hg x (by simp[hx])) λx hx=>hq x (by simp[hx]);refine⟨(e.1,o)::es',by simp[b1],⟨a1,b2⟩,λx hx=>?_,λk=>?_⟩
  .rcases Ë.1 hx with rfl|hx
   .exact a2
   .exact b3 x hx
  .simp only[qU];split
   .exact congrArg some a3
   .exact b4 k
theorem RO.at{D:Int}:∀{g:Nat}{lv:Int}{v:AI}{d:pL},RO F w v d->pU D x g lv d ->∃o,Ar g F w v o/\qM g o/\pO g o=d:=by
 intro g;induction g with
 |zero=>intro lv v d _ hg;exact hg.elim
 |succ g ih=>
  intro lv v d hro hg;obtain⟨b,rfl,hb,h⟩:=hro.cases;rcases h with⟨k,hk,rfl,h⟩|⟨n,rfl,hn,h⟩|⟨s,rfl,h⟩|⟨ds,sl,ps,rfl,h,ho,hs,ha⟩|⟨f,es,E,rfl,h1,h2,h3,h4,h5,h6,kl,sl,ps,a1,a2,a3,a4,a5,a6⟩
  .exact⟨tL k,⟨b,rfl,hb,Å ⟨k,hk,rfl,h⟩⟩,Å ⟨k,hk,rfl⟩,rfl⟩
  .exact⟨tB n n.2.2,⟨b,rfl,hb,À (Å ⟨n,_,rfl,h⟩)⟩,À (Å ⟨n,rfl,hn.1,hn.2⟩),rfl⟩
  .exact⟨uA s,⟨b,rfl,hb,À (À (Å ⟨s,rfl,h⟩))⟩,À (À (Å ⟨s,rfl⟩)),rfl⟩
  .obtain⟨es,b1,b2,rfl⟩:=LP (Q:=λe=>pU D x g (lv+1) e) (λv d q1 q2=>ih q1 q2) ha λe he=>by
    obtain⟨i,hi,rfl⟩:=ù he;exact Et hg (Ô hi)
   exact⟨rK es,⟨b,rfl,hb,À (À (À (Å ⟨es,sl,ps,rfl,h,ho,hs,b1⟩)))⟩,À (À (À (Å ⟨es,rfl,b2⟩))),rfl⟩
  .obtain⟨es',b1,b2,b3,b4⟩:=Nx (Q:=λe=>pU D x g (lv+1) e) (λv d q1 q2=>ih q1 q2) a6 h5 λp hp=>by
    have hm:Aq E (.string p.1)=some (pO f p.2):=by
     obtain⟨E2,e1,e2,e3,_⟩:=CG f es h4;have e4:E2=E:=by rw[h1]at e1;injection e1 with e1;exact e1.symm
     subst e4;exact Bi h2 (e2.mem_iff.2 (Ò.2 ⟨p,hp,rfl⟩))
    have hin:(Lit.string p.1,pO f p.2)∈E:=by
     obtain⟨E2,e1,e2,e3,_⟩:=CG f es h4;have e4:E2=E:=by rw[h1]at e1;injection e1 with e1;exact e1.symm
     subst e4;exact e2.mem_iff.2 (Ò.2 ⟨p,hp,rfl⟩)
    obtain⟨i,hi,he⟩:=ù hin;exact Et (i:=i) hg (by simp[AW,hi,he])
   have hnd:(es'.map (·.1)).Nodup:=by rw[b1];exact h4
   have hl:es'.length=es.length:=by have:=congrArg List.length b1;simpa using this
   obtain⟨E',c1,c2,_,c4⟩:=Gh g es' hnd;have hE:E'=E:=Do c2 h2 λk=>by rw[c4,h6,b4]
   subst hE;exact⟨qF es',⟨b,rfl,hb,À (À (À (À ⟨es',kl,sl,ps,rfl,a1,by
    have e:(es'.map λp=>AG p.1)=es.map λp=>AG p.1:=by
     have:=congrArg (List.map AG) b1;rwa [Ý,Ý]at this
    rw[hl,e];exact a2,a3,a4,a5,b2⟩)))⟩,À (À (À (À ⟨es',rfl,hnd,b3⟩))),c1⟩
theorem bE{D:Int}(h:RO F w v d)(hg:pU D x top 1 d):Calls A1 93 #[v] w λe w'=>e=.returned (.int .i64 (qD top d))/\w'=w:=by
 obtain⟨o,h1,h2,rfl⟩:=h.at hg;rw[<-Qh top o h2];exact Qq top F w v o h1 (by rw[DN];omega)
end
theorem YU{d:Int}:(∃c,qB t d x=(c,none)/\0<c)\/∃v,qB t d x=(0,some v):=by
 unfold qB;split
 .grind
 .split
  .grind
  .rename_i v r fl hv;split
   .split
    .grind
    .split
     .grind
     .split
      .grind
      grind
   grind
theorem Qj{d x:Int}(hd:d<=100):∀(l:List qH) (i:Nat) (v:pL) (j0:List pW) {v':pL}{j:List pW},pZ d x 200000 v->(∀o∈l,tY (d+2) x 200000 o)->Cn d i v j0 l=.ok (v',j)->pZ d x 200000 v'/\((pP top v).length<=80000->(pP top v').length<=80000)
 |[],i,v,j0,v',j,hv,_,h=>by
  grind [Cn]
 |o::r,i,v,j0,v',j,hv,ho,h=>by
  unfold Cn at h;split at h
  .cases h
  .rename_i d1 j1 hdo;split at h
   .rename_i hm;obtain⟨f1,_,_⟩:=Gq hv (ho o â) hd hdo;obtain⟨f2,f3⟩:=Ja f1 hd hm;obtain⟨f4,f5⟩:=Qj hd r _ d1 _ (f2.mono (Ā _) ζ ζ) (λo h=>ho o (Ø _ h)) h;grind
   .cases h
def E6(g:Nat)(es:List (Lit×pL)):Nat:=(es.map λp=>(Ai (strOf p.1)).length+2+cm g p.2).sum
theorem QA(g:Nat)(x:Lit×pL)(l:List (Lit×pL)):E6 g (A4 x l)=(Ai (strOf x.1)).length+2+cm g x.2+E6 g l:=by
 induction l with
 |nil=>rfl
 |cons y r ih=>
  unfold A4;split
  .rfl
  .simp only[E6,Ð,Ĉ]at ih |-;omega
theorem QB(g:Nat)(c:Lit×pL->Bool)(l:List (Lit×pL)):E6 g (l.filter c)<=E6 g l:=by
 induction l with
 |nil=>simp
 |cons y r ih=>
  rw[Ġ];split
  .simp only[E6,Ð,Ĉ]at ih |-;omega
  .simp only[E6,Ð,Ĉ]at ih |-;omega
theorem QU{l r:By}{k:Nat}(h:A6 l 0 rE=some (k,r)):r.length+4<=l.length:=by
 have hp:∀(x:By),BY l x=true->x.length<=l.length:=λx hx=>by
  unfold BY at hx;grind
 unfold rE at h;simp only[A6]at h;grind
theorem Yn(f:Nat):∀(lv:Int) (l:By) (fl:Fl) (v:pL) (r:By) (fl':Fl),qL f lv l fl=some (v,r,fl') ->∀g,cm g v+1+4*r.length<=4*l.length:=by
 induction f with
 |zero=>intro lv l fl v r fl' h;cases h
 |succ f ih=>
  intro lv l fl v r fl' h g;have q6:=EO _ _ _ _ _ _ _ h;cases g with
  |zero=>simp[cm];omega
  |succ g=>
   unfold qL at h;split at h
   .split at h
    .cases h
    .rename_i h1;have hI:=CW (σ:=pL×Fl) (λm s=>∃es,s.1=.map es/\E6 g es+4*m.length<=4*l.tail.length) ε (by
      rintro a s a' s' ⟨es,e1,e4⟩hm;unfold Cx at hm;split at hm
      .cases hm
      .rename_i k l1 hq;have q1:=Pu hq;have b:=Az l1;split at hm
       .rename_i htk;have ht:=AV htk;have c:=Az (pR l1).tail;split at hm
        .cases hm
        .rename_i d r2 q5 hv;have hc:=ih _ _ _ _ _ _ hv g;injection hm with hm;injection hm with h1 h2;subst h1;subst h2;refine⟨A4 (.string k,d) (es.filter λp=>!p.1.sameKey (.string k)),by rw[e1];rfl,?_⟩;rw[QA];have h4:=QB g (λp=>!p.1.sameKey (.string k)) es;show(Ai k).length+2+cm g d+E6 g (es.filter λp=>!p.1.sameKey (.string k))+4*r2.length<=_;omega
       .cases hm) ⟨[],rfl,by simp[E6]⟩ h1
     obtain⟨⟨es,e1,e4⟩,hpos⟩:=hI;injection h with h;injection h with h2 h3;injection h3 with h3 h4;subst h2;subst h3;simp only at e1;subst e1;have:=į (l:=l);show 2+E6 g es+1+4*_<=_;omega
   .split at h
    .split at h
     .cases h
     .rename_i h1;have hI:=CW (σ:=List pL×Fl) (λm s=>(s.1.map λv=>cm g v+1).sum+4*m.length<=4*l.tail.length) ζ (by
       rintro a s a' s' ho hm;unfold CQ at hm;split at hm
       .cases hm
       .rename_i d r2 q5 hv;have hc:=ih _ _ _ _ _ _ hv g;grind) φ h1
      obtain⟨e4,hpos⟩:=hI;injection h with h;injection h with h2 h3;injection h3 with h3 h4;subst h2;subst h3;rename_i q4 _;have:=į (l:=l);simp only at e4;show 2+(q4.map λe=>cm g e+1).sum+1+4*_<=_;omega
    .split at h
     .split at h
      .cases h
      .rename_i s r1 h1;have q1:=Pu h1;have q0:=Ff h1;injection h with h;injection h with h2 h3;injection h3 with h3 h4;subst h2;subst h3;show(Ai s).length+1+4*_<=_;omega
     .split at h
      .split at h
       .cases h
       .rename_i n r1 h1;have q1:=Zi h1;injection h with h;injection h with h2 h3;injection h3 with h3 h4;subst h2;subst h3;exact q1
      .split at h
       .cases h
       .rename_i k r1 h1;have q1:=QU h1;injection h with h;injection h with h2 h3;injection h3 with h3 h4;subst h2;subst h3;have q2:=Nl k;show(rE.getD k []).length+1+4*_<=_;omega
theorem Hc{d:Int}{v:pL}(h:qB t d x=(0,some v))(hx:x<=400):pV top v<=8000:=by
 have hg:=TG hx (Fe h);refine Ã hg ?_;unfold qB at h;split at h
 .grind
 .rename_i hl;have hs:=Az t;split at h
  .grind
  .rename_i v2 r fl hv;have hb:=Yn _ _ _ _ _ _ _ hv top;grind
theorem Nz{ds:By}{ex:Int}(hne:ds≠[])(hd:∀c∈ds,qW c=true)(h1:ds.head?≠some 48)(h2:ds.getLast?≠some 48)(hb:-400<=ex/\ex<=400)(r:By)(hr:Nd r):
  uS (ds++((if ex=0 then[]else 101::B3 ex)++r))=ex:=by
 have hT:∀c t,(if ex=0 then[]else 101::B3 ex)++r=c::t->qW c=false/\c≠46:=by
  intro c t h;split at h
  .exact⟨(hr c t h).1,(hr c t h).2.1⟩
  .injection h with h3 h4;rw[<-h3];exact⟨η,η⟩
 obtain⟨e1,e2⟩:=Ix ds _ hd (λc t h=>(hT c t h).1);have hex:AY ((if ex=0 then[]else 101::B3 ex)++r)=some (ex,r):=by
  by_cases h0:ex=0
  .rw[if_pos h0,Ù,h0];exact Ke hr
  .rw[if_neg h0];exact Ok ex ζ r hr
 have hn:=Oj hex;obtain⟨t1,t2⟩:=RN h1 h2;unfold uS;rw[e1,e2,Ho ε];simp only;unfold uR;grind
theorem YS{n:Nm}(hg:Gn n)(hb:-400<=n.2.2/\n.2.2<=400)(r:By)(hr:Nd r):tN (BI n++r)=n.2.2:=by
 rcases hg with rfl|⟨hne,hd,h1,h2⟩
 .unfold BI;rw[if_pos rfl];unfold tN;rw[if_neg (by rw[Ü,Cp];decide)];obtain⟨e1,e2⟩:=Ix [48] r η (λc t e=>(hr c t e).1);unfold uS;rw[e1,e2,Ho (λc t e=>(hr c t e).2.1)];rfl
 .obtain⟨ng,ds,ex⟩:=n;simp only at hne hd h1 h2 hb;unfold BI;rw[if_neg hne];simp only;unfold tN;cases ng with
  |true=>
   simp only[if_pos,ē,Ü,Ù];rw[if_pos θ,Ą];exact Nz hne hd h1 h2 hb r hr
  |false=>
   simp only[ł,if_false,ē,Ù];rw[JK hne,IG hd 45 η,if_neg η];exact Nz hne hd h1 h2 hb r hr
theorem YP{d:Int}(hx:x<=400)(f:Nat):∀(lv:Int) (v:pL),pU d x f lv v ->∀(r:By),Nd r ->∃o,pX f (pP f v++r)=some (o,r)/\tH f o:=by
 induction f with
 |zero=>intro lv v h;cases h
 |succ f ih=>
  intro lv v h r hr;obtain⟨q7,⟨k,hk,rfl⟩|⟨s,hs,rfl⟩|⟨n,hn,q8,q9,rfl⟩|⟨es,q0,rfl⟩|⟨es,hp,q0,rfl⟩⟩:=h
  .refine⟨tL k,?_,Å ⟨k,hk,rfl⟩⟩;rw[GZ]
   match k,hk with
   |0,_=>rfl
   |1,_=>rfl
   |2,_=>rfl
  .refine⟨uA s,?_,À ε⟩;rw[Gt];have hq:=IR hs r;have hpk:pY (Ai s++r)=34:=rfl;grind [pX,pP,sS]
  .refine⟨tB n n.2.2,?_,À (Å ⟨n,_,rfl,Å rfl⟩)⟩;rw[IA];have hq:=PJ hn ⟨ζ,ζ⟩ r hr;have qb:=YS hn ⟨ζ,ζ⟩ r hr;obtain⟨c,t,e,hc⟩:=MV hn;have hpk:pY (BI n++r)=c.toNat:=by rw[e];rfl
   have q6:c.toNat=45\/(48<=c.toNat/\c.toNat<=57):=by
    rcases hc with rfl|hc
    .grind
    .unfold qW at hc;grind
   grind [pX,pP,sS]
  .obtain⟨es',h1,h2⟩:=FA (σ:=List O) 91 93 (Å rfl) (sV (pX f)) (λ_ s=>∀e∈s,tH f e) r (es.map (pP f)) [] (by
    rintro i hi s rest hP hrest;rw[æ]at hi;rw[é];obtain⟨o,h1,h2⟩:=ih (lv+1) es[i] ε rest hrest;refine⟨s++[o],by unfold sV;rw[h1],λe he=>?_⟩;grind) (by
    intro y hy;obtain⟨e,he,rfl⟩:=Ò.1 hy;exact Mp (q0 e he)) (λe he=>by cases he)
   refine⟨rK es',?_,À ε⟩;rw[BH];grind [pX,pP,sS,Ah,pY,sV,rY,tH]
  .have hk:∀p∈es,∃s,p.1=.string s:=ε;obtain⟨es',h1,h2⟩:=FA (σ:=Ms) 123 125 (À rfl) (rY (pX f)) (λ_ s=>∀p∈s,tH f p.2) r (es.map (sS f)) [] (by
    rintro i hi s rest hP hrest;rw[æ]at hi;rw[é];obtain⟨⟨k,q4,q5⟩,hg⟩:=q0 es[i] (Ó hi);obtain⟨o,h1,h2⟩:=ih (lv+1) es[i].2 hg rest hrest;have e1:sS f es[i]++rest=Ai k++(58::(pP f es[i].2++rest)):=by
     unfold sS;rw[q4];simp[strOf]
    refine⟨s++[(k,o)],?_,λe he=>?_⟩
    .rw[e1];unfold rY;rw[IR q5];simp only;rw[show pR (58::(pP f es[i].2++rest))=58::(pP f es[i].2++rest)from rfl,if_pos θ,Ą,(Mp hg).skB,h1]
    grind) (by
    intro y hy;obtain⟨e,he,rfl⟩:=Ò.1 hy;exact⟨34,_,rfl,η,η,η⟩) (λe he=>by cases he)
   refine⟨qF es',?_,À ε⟩;rw[GD hp hk];grind [pX,pP,sS,Ah,pY,sV,rY,tH]
theorem iZ{d:Int}{v:pL}(hg:pU d x top 1 v)(q4:0<=x)(hx:x<=400){f:Nat}(hf:d<f):
  ∃o,pX f (pP top v)=some (o,[])/\pO f o=v/\qM f o/\rR f o=false/\¬d<qR f o/\sA x f o=false/\tH f o:=by
 have q0:=CT (f:=f) hg ζ;have hc:pP f v=pP top v:=by
  by_cases h:f<=top
  .exact (Ew f top 1 v q0 h).symm
  .exact Ew top f 1 v hg ζ
 have hnd:Nd []:=by intro c t e;cases e
 obtain⟨o,h1,h2⟩:=YP hx f 1 v q0 [] hnd;obtain⟨fl,h3,h4⟩:=dT (d:=d) (x:=x) ζ f 1 v q0 (false,(0,0)) [] hnd;rw[ĉ,hc]at h1 h3;rw[K5 f 1 _ _ (Ā _),h1]at h3;simp only[Ċ,Option.some.injEq,Prod.mk.injEq,true_and]at h3;obtain⟨h5,h6⟩:=h3;obtain⟨k1,k2,k3⟩:=h4 ⟨rfl,(by show(0:Int)<=d;have:=Hn hg;omega),q4⟩;rw[<-h6]at k1 k2 k3;have e1:(sE f 1 (false,(0,0)) o).1=rR f o:=θ;have hd:=(Qi f o).1;have e2:¬d<qR f o:=by
  grind [sE,pP,qR]
 have e3:sA x f o=false:=by
  rw[S8 x ⟨q4,hx⟩ f o h2,decide_eq_false_iff_not];grind [sE,pP,qR]
 rw[e1]at k1;exact⟨o,h1,h5,dC x ⟨q4,hx⟩ f o h2 k1 e3,k1,e2,e3,h2⟩
theorem kD{w:AS}{B cap:Nat}{L3:List Tri}(h:w.ownsRow B 49 3 (SlB g L3.length cap) L3.length (CX L3))(hpos:0<L3.length):Scr w g 0 (L3.map prT)/\g<w.1.size/\L3.length<=cap:=by
 obtain⟨q6,h⟩:=h;rcases h with⟨_,h0⟩|⟨g',q4,cur,h1,_,h3,h4,h5,h6,h7⟩
 .omega
 .injection h1 with h1 _ h8;obtain rfl:g=g':=by
   have:=Î h1;exact congrArg Addr.block this
  subst h8;refine⟨?_,(È.1 h3).1,h4⟩;have q0:∀j u,j<L3.length*3->(CX L3)[j]?=some u->w.cell? ⟨g,j,none⟩=some u:=by
   intro j u hj hu;have e:w.cell? ⟨g,j,none⟩=cur[j]?:=by simp[B2,h3]
   rw[e,<-ĵ];rw[<-h7,A3,if_pos hj]at hu;exact hu
  intro i hi;have q5:i<L3.length:=by simpa using hi
  obtain⟨a,b,c⟩:=Z5 L3 i q5;rw[ė];refine⟨?_,?_,?_⟩
  .rw[q0 _ _ ζ a];simp[prT]
  .rw[q0 _ _ ζ b];simp[prT]
  .rw[q0 _ _ ζ c];simp[prT]
theorem fA{d n:Int}(hc:rT d x n=false)(l:List St)(doc:sL)(k:Nat)(hk:k<l.length)(hr:k<(sM d x n doc l).length):(sM d x n doc l)[k]=(2,0,[]):=by
 rw[VW d x n l doc k hk hr];unfold rF;rw[hc];rfl
section
variable{f:Nat}{F:Nat->Prop}{w:AS}{v:AI}{d:pL}
theorem Uk(h:Rep (f+2) F w v d)(hf:f<=top)(hs:∀es y,d=.slice es y->es.length<=400000000/\∀x∈es,∀k s,BO (Ao x k)=some s->s.length<=1048576)(hT:Aj w)(hO:Jy w):
  Calls A1 83 #[v] w λe w'=>DR F d w e w'/\Bl w w':=by
 obtain⟨b,rfl,hb,h⟩:=h;have hK:=Ab (WM hO);by_cases qb:∃es,d=Ak es
 .obtain⟨es,rfl⟩:=qb;obtain⟨sl,ps,hv,ho,hF,ha⟩:∃sl ps,VB w b 5 n0 [] sl (.map none)/\w.ownsRow 0 80 1 sl ps.length ps/\(∀g,sl.ownBlock=some g->F g)/\Al (Rep (f+1) F w) ps es:=by
   rcases h with⟨k,_,e,h⟩|⟨n,e,h,_⟩|⟨s,e,h⟩|⟨es',sl,ps,e,h1,h2,h3,h4⟩|⟨es',m,n,D,e,_⟩
   .cases e
   .cases e
   .cases e
   .grind [Ba,A7,Ak]
   .cases e
  obtain⟨zq,qi⟩:=hs es [] rfl;have hal:=ha.length;have c0:=hv.c0;have c5:=hv.c5;have zc:=hv.lt;obtain⟨N,hN⟩:∃N,N=ps.length:=⟨_,rfl⟩
  obtain⟨ao,cap,g,rfl,qh⟩:∃ao cap g,sl=.slice ao ps.length cap/\(0<ps.length->ao=some ⟨g,0,none⟩/\g<w.1.size/\ps.length<=cap/\∀k (hk:k<ps.length),CeB w g k=some ps[k]):=by
   rcases ho.2 with⟨h1,h0⟩|⟨g',cap,cur,h1,_⟩
   .grind
   .refine⟨some ⟨g',0,none⟩,cap,g',h1,λhp=>?_⟩;obtain⟨g2,q9,e,a1,a2,a3,a4⟩:=AP ho hp;grind
  rw[<-hN]at c5 hal;obtain⟨i0,z0,hi,hz,y4,hz2,hz3⟩:=PD;have HT:=Ab hT;have HA:=Ab ha;have qr:=Ab qh;have qt:=Ab qi;have z6:=Ab hN;have z5:=Ab hal;have zj:=Ab zc;have zl:=Ab c5;have y9:(N:Int)<=400000000:=ζ;obtain⟨Q,hQ⟩:∃Q,Q=DR F (Ak es) w:=⟨_,rfl⟩
  rw[<-hQ];have HQ:=Ab hQ;clear h hb hs hT hO hv ho hF ha zq qi hal zc hN qh hQ c5;go_enter func83,ntmps83;go_wp2_with fail;refine hK.u.mono ?_;rintro e w1⟨m,rfl,zy,hm,hb1⟩;have y8:=(hb1.cell (p:=⟨b,5,none⟩) zj.u).trans zl.u;have q4:=Ab hb1;have HM:=Ab hm;have zg:m<w1.1.size:=by obtain⟨es,z9,hb,_⟩:=hm;grind
  have zn:=Ab zg;have H0:=Ab (show RdI F w1 es 0 (.slice none 0 0) [] [] w1 from⟨rfl,⟨rfl,Å ⟨rfl,rfl⟩⟩,Â _ _,λi hi=>absurd hi φ,ε⟩);clear hK zy hm hb1 zg;go_wp2;go_loopw [2,21] (λpv i wr=>∃(k:Nat) (xs:List AI) (ops:List qH),k<=N/\i=InB k/\Hid (RdI F w1 es k pv xs ops wr)) (λ_ i _=>N-(intOf i).toNat)
  case atStart=>grind
  case round=>
   obtain⟨k,xs,ops,hk,rfl,HI⟩:=hrel;by_cases hlt:k<N
   .have qk:k<ps.length:=by have:=z6.u;omega
    have zf:k<es.length:=by have:=z5.u;omega
    obtain⟨zr,zv,zu,q6⟩:=qr.u ζ;subst zr;have qj:Bl w wr:=q4.u.trans (HI.u.bel.mono q4.u.size);have ck:=(qj.cell (p:=⟨g,k,none⟩) zv).trans (q6 k qk);obtain⟨ek,qv⟩:∃ek,ek=es[k]:=⟨_,rfl⟩
    have qg:Rep (f+1) (λq=>F q/\q<w1.1.size) wr ps[k] ek:=qv▸(HA.u.get k qk zf).move λj hj qe=>⟨qj.block j qe,hj,Õ qe q4.u.size⟩
    have za:Aj wr:=HT.u.below (qj.mono HT.u.ng);have q5:=Ab (ZO qg hf (qt.u ek ε) (J7 HM.u (HI.u.bel.block m zn.u)) za);have ya:(N:Int)<=(cap:Int):=by have:=z6.u;omega
    have qz:(k:Int)<(N:Int):=ζ;have zx:(k:Int)<(cap:Int):=ζ;obtain⟨pk,hpk⟩:∃pk,pk=ps[k]:=⟨_,rfl⟩
    rw[<-hpk]at ck q5;have y5:=Ab qk;have z4:=Ab zf;have z3:=Ab qv;clear qj q6 qg za qk hpk qv;go_wp2_with fail;refine q5.u.mono ?_;rintro e W2⟨q0,hb2⟩;have z1:=Ab hb2;unfold Gl at q0;cases hit:Bf ek with
    |none=>
     rw[hit]at q0;subst q0;have qm:=Ab (show A7 (Ak es)=.error k by
      show Ba 0 es=_;rw[HI.u.eq,Û z4.u,Ba,<-z3.u,hit])
     clear hit hb2;unfold opV;go_wp2;go_ret3;refine⟨?_,((q4.u.trans ((HI.u.bel.trans (z1.u.mono HI.u.bel.size)).mono q4.u.size)).alloc (Ã q4.u.size (Ã HI.u.bel.size z1.u.size)) _)⟩;rw[HQ.u,DR,qm.u];rfl
    |some o=>
     rw[hit]at q0;obtain⟨pa,pl,pc,fa,fl,fc,y,rfl,zh⟩:=q0;obtain⟨ok,hok⟩:∃ok:Nat,ok=o.1:=⟨_,rfl⟩
     have zo:=Ab zh;have zm:=Ab hit;have z7:=Ab hok;unfold opV;rw[<-hok];have hs2:=hb2.size;have y3:=HI.u.bel.size;have hb4:Bl wr ((W2.alloc (.cells #[InB ok,.slice pa pl pc,.slice fa fl fc,.pointer y] 178)).alloc (.cells #[InB ok,.slice pa pl pc,.slice fa fl fc,.pointer y] 178)):=(hb2.alloc hs2 _).alloc ω _;have zi:=Ab hb4;have qq:=Ab (HI.u.own.kept ⟨hb4.os,hb4.tape,hb4.output,hb4.size,λj hj _=>hb4.block j hj⟩ (row:=none) (Classical.em _));have y6:=Ab hs2;have y7:=Ab y3;have qw:((k:Nat)+1)*64<=140737488355328:=ζ;have zw:k+1<=maxLen:=by unfold maxLen;omega
     clear hit hb2 zh hok hb4;go_wp2_with (first
      |(at_builtin;refine wpList_append_own_at _ rfl _ _ 113 rfl w1.1.size 178 i0 z0 4 64 underlying113 hi hz hz2 hz3 y4 η _ _ _ rfl qq.u ⟨W2.1.size+1,0,none⟩ 1 1 [InB ok,.slice pa pl pc,.slice fa fl fc,.pointer y] rfl rfl (Ö (cs:=#[InB ok,.slice pa pl pc,.slice fa fl fc,.pointer y]) (t:=178) (fr:=(0,0)) (by have:=Ê (W2.alloc (.cells #[InB ok,.slice pa pl pc,.slice fa fl fc,.pointer y] 178)) (.cells #[InB ok,.slice pa pl pc,.slice fa fl fc,.pointer y] 178);simp_all)) (by intro u hu;simp at hu;rcases hu with rfl|rfl|rfl|rfl<;>rfl) zw qw ω ?_;intro v' w5 q8 q7 zz qf))
     have zt:=Â W2.1.size W2;have zb:=(zt.alloc (Á _) (.cells #[InB ok,.slice pa pl pc,.slice fa fl fc,.pointer y] 178)).alloc φ (.cells #[InB ok,.slice pa pl pc,.slice fa fl fc,.pointer y] 178);rw[z7.u]at q8 q7 zb qf;have z2:=zi.u;rw[z7.u]at z2;exact⟨⟨k+1,_,_,ζ,ψ,RdI.next HI.u z4.u (by rw[<-z3.u];exact zm.u) z2 (zo.u.move λj hj qe=>⟨zb.block j qe,hj⟩) q8 q7 qf⟩,by simp[intOf];omega⟩
   .obtain rfl:k=N:=ζ;have hI:=HI.u;have qy:k=es.length:=by have:=z5.u;omega
    have ze:A7 (Ak es)=.ok ops:=by
     show Ba 0 es=_;rw[hI.eq,í ζ];simp[Ba]
    obtain⟨z8,q9,g2,rfl,qu⟩:=F7 hI.own;have qd:Q (.returned (.tuple #[.slice z8 k q9,InB 0,.bool true])) wr:=by
     rw[HQ.u,DR,ze];refine⟨z8,g2,q9,by rw[hI.len],λhp=>?_,?_⟩
     .obtain⟨a1,a2,a3,a4⟩:=qu (by rw[<-hI.len];exact hp);exact⟨a1,Ã q4.u.size a3⟩
     .refine D4.mem (hI.rops.move λj hj qe=>⟨rfl,?_⟩) λhp=>(qu (by rw[<-hI.len];exact hp)).2.2.2;rcases hj.1 with⟨h1,h2⟩|h1
      .grind
      .exact À (Ã q4.u.size h1)
    have qn:=Ab qd;have zk:=Ab (q4.u.trans (hI.bel.mono q4.u.size));have qz:¬(k:Int)<(k:Int):=ζ;clear hI qy ze qu qd;go_wp2;go_ret3;exact⟨qn.u,zk.u⟩
 .obtain⟨x,n,s,sl,mv,hv,hx⟩:∃(x:Nat) (n:Nm) (s:By) (sl mv:AI),VB w b x n s sl mv/\x≠5:=by
   rcases h with⟨k,hk,rfl,h⟩|⟨n,rfl,h,_⟩|⟨s,rfl,h⟩|⟨es,sl,ps,rfl,h,_⟩|⟨es,m,n,D,rfl,h,_⟩
   .grind
   .exact⟨3,_,_,_,_,h,ζ⟩
   .exact⟨4,_,_,_,_,h,ζ⟩
   .grind
   .exact⟨6,_,_,_,_,h,ζ⟩
  have hpr:A7 d=.error 0:=by
   unfold A7;split
   .rename_i es y;exfalso;rcases h with⟨k,_,e,h⟩|⟨n,e,h,_⟩|⟨s,e,h⟩|⟨es',sl,ps,e,_⟩|⟨es',m,n,D,e,_⟩
    .cases e
    .cases e
    .cases e
    .grind
    .cases e
   .rfl
  have c0:=hv.c0;have e1:((x:Int)!=5)=true:=ε;have qo:=Ab (show DR F d w (.returned (.tuple #[.slice none 0 0,InB 0,.bool false])) w by unfold DR;grind);clear h hb qb hv hpr hs hT hO hK hx;go_enter func83,ntmps83;go_wp2;go_ret3;exact⟨qo.u,Â _ _⟩
end
def X8(F:Nat->Prop)(w W0:AS)(D:Nat)(d e:Int)(v:pL×rA)(l:List qH)(x:Ending)(w3:AS):Prop:=∃(c i:Nat) (v':pL×rA),x=.returned (.tuple #[InB i,InB c])/\w3.1[w.1.size]?=W0.1[w.1.size]?/\Aw F w w3/\
 BN w3 (FN F (w.1.size+1)) (PtB D) d e (some v')/\(match Cn d 0 v.1 [] l with
  |.error (c',i')=>c=c'/\i=i'/\v'=v
  |.ok (y,j)=>c=0/\i=0/\v'=(y,some j.reverse))
theorem Uh{w W0 w9:AS}{F:Nat->Prop}{D R:Nat}{wp:AI}{d e:Int}{v:pL×rA}{l:List qH}{ao:Option Addr}{cap:Nat}(hd:Fu w F D R wp d e v)(hF:∀k,F k->NG<=k/\k<w.1.size)(hW:Bl w W0)(qg:W0.1.size=w.1.size+1)(hb:Bl W0 w9)(hT:Aj w9)(q6:ME w9 (λk=>W0.1.size<=k) g l)(hg:0<l.length->ao=some ⟨g,0,none⟩/\W0.1.size<=g)(hok:∀o∈l,tY (d+2) e 200000 o)(hn:l.length<=80000)(qi:d<=20):
  Calls A1 84 #[PtB D,.slice ao l.length cap,InB d] w9 (X8 F w W0 D d e v l):=by
 obtain⟨T,a,iv,h1,h2,h3⟩:=hd.ex;have fD:=hd.fD;have q5:=hd.len;have q8:=hd.gd;have q9:D8 W0 D R wp (.slice none 0 0) iv v.2.isSome T a v.1:=h1.move (hW.block D h1.db.lt) λk hk=>hW.block k (h1.tr.lt k hk);have qe:LB W0 (λk=>F k/\k≠D/\k∉pM (top+1) T) iv v.2:=h3.move λk hk qd=>⟨hW.block k qd,hk⟩
 obtain⟨qn,rfl,hJ⟩:=Rg q9 hb;have qb:=h1.tr.lt;have qf:=h1.db.lt;have qh:=hb.size;have qj:=hT.ng;have q7:pZ d e 200000 v.1:=⟨q8,ζ,by have:=(Dz q8).2;omega⟩
 refine(U4 (d:=d) (x:=e) (g:=g) hJ hT (λk hk=>⟨?_,λhm=>?_,λe=>?_⟩) (λk hk=>⟨hk.2.2,ζ⟩) ζ q7 q5 (λhp=>?_) (λi hi=>?_) hok ζ).mono ?_
 .omega
 .have:=(hF k (h2 k hm)).1;omega
 .have:=(hF k (e▸fD)).1;omega
 .obtain⟨e1,e2⟩:=hg hp;obtain⟨pa,pl,pc,fa,fl,fc,y,_,q1,_⟩:=q6 0 hp;exact⟨e1,World.block_lt_of_cell? w9 _ q1,λhm=>by have:=qb g hm;omega,λe=>ζ⟩
 .obtain⟨pa,pl,pc,fa,fl,fc,y,q0,q1⟩:=q6 i hi;exact⟨pa,pl,pc,fa,fl,fc,y,q0.move λk hk qd=>⟨rfl,ε,Å hk⟩,q1⟩
 .intro x w3 hp;have q4:∀k,k<w.1.size ->¬F k->k<W0.1.size/\k∉pM (top+1) T/\k≠D:=ε;have hq:w.1.size<W0.1.size/\w.1.size∉pM (top+1) T/\w.1.size≠D:=ε;unfold X8;cases hr:Cn d 0 v.1 [] l with
  |error ci=>
   obtain⟨c,i⟩:=ci;rw[hr]at hp;obtain⟨rfl,p1,p2,p3,p4,p5,p6⟩:=hp;refine⟨c,i,v,rfl,p2.held _ hq,⟨p3.trans (hb.os.trans hW.os),p4.trans (hb.tape.trans hW.tape),p5.trans (hb.output.trans hW.output),by have:=hW.size;omega,λk hk hx=>(p2.held k (q4 k hk hx)).trans (hW.block k hk)⟩,?_,rfl,rfl,rfl⟩;exact Ui q9 rfl h2 qe fD q5 q8 (λk hk _=>by have:=(hF k hk).2;omega) ζ p2 p1
  |ok vj=>
   obtain⟨y,j⟩:=vj;rw[hr]at hp;obtain⟨rfl,qm,jn,T2,a2,M',wk,qk,s1,s2,s3,s4,s5,s6,s7,s8,s9⟩:=hp;have hM:∀k,k<W0.1.size/\k∉pM (top+1) T/\k≠D->w3.1[k]?=W0.1[k]?:=λk hk=>by
    have h4:=s2.kept k ⟨ζ,hk.2⟩;exact(s5.block k (by have:=s2.size;omega) hk.2.2).trans (h4.2.trans (hb.block k hk.1))
   refine⟨0,0,_,rfl,hM _ hq,⟨s5.os.trans (s2.os.trans (hb.os.trans hW.os)),s5.tape.trans (s2.tape.trans (hb.tape.trans hW.tape)),s5.output.trans (s2.output.trans (hb.output.trans hW.output)),ε,λk hk hx=>(hM k (q4 k hk hx)).trans (hW.block k hk)⟩,?_,rfl,rfl,rfl⟩;refine Ug (F:=F) (B:=w.1.size+1) (λk hk=>⟨h2 k hk,by have:=qb k hk;omega⟩) ⟨fD,ζ⟩ ζ s1 s3 s4 s5 s7 s6.gd (NP (d:=d) (x:=e) (λo ho=>s8 o (Ĥ.1 ho)) ?_) λo ho=>⟨by have:=(s8 o (Ĥ.1 ho)).1;omega,λh=>⟨_,_,((s8 o (Ĥ.1 ho)).2 h).gd,((s8 o (Ĥ.1 ho)).2 h).dd⟩⟩
   rw[Ľ];omega
