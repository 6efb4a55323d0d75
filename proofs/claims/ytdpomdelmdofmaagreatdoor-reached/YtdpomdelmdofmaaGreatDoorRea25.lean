import Derived.Test.YtdpomdelmdofmaaGreatDoorRea24
open Go.Proofs.Tryz renaming prog->AI
open Go.RowKit renaming Below->AS
open Nat renaming le_refl->AT,le_trans->Bs,lt_of_lt_of_le->Dp
open Go renaming Calls->A1,heap_alloc_new->A2,World->A3,Value->CD
open List renaming dropLast_concat_getLast->A4,length_map->BY,mem_iff_getElem->CH,mem_map->Dt,getElem_mem->D2
open Go.RowKit.Below renaming refl->A5,heap_alloc->D1
open Array renaming getElem?_eq_some_iff->A6
open Go.World renaming cell?->CL,cell?_of_block->CR
open Go.Lit renaming string->C1
open Or renaming inl->C2,inr->D0
open Go.Lib renaming itoa->D3
open Prod renaming snd->E0
set_option maxHeartbeats 4000000
set_option maxRecDepth 100000
namespace Go.Proofs.YtdpomdelmdofmaaGreatDoor
open Go.Proofs.Tryz Go.RowKit Go.Maps
variable{p path s:List By}{w2:A3}{L f g n:Nat}{rv:CD}{m:dS}{px:Option Addr}{t:By}
def AO(D R:Nat)(iv:CD)(ch:Bool)(Tb:dS)(Mb:Nat->Prop)(wb:A3)(M:Nat->Prop)(js:List dX)(w:A3)(r:Except Nat (To×List dX))(e:Ending)(w':A3):Prop:=match r with
 | .ok (v',j)=>e=.returned (.int .i64 0) /\ ∃wp jn T a M',JS w' D R wp jn iv ch Tb Mb wb T a v' M' (js++j)/\JEx M M' w w'
 | .error c=>e=.returned (.int .i64 c) /\ ∃wp jn T a v' M' q0,JS w' D R wp jn iv ch Tb Mb wb T a v' M' q0/\JEx M M' w w'
structure eG(d x:Int)(B:Nat)(v:To):Prop where
 gd:dY d x top 1 v
 dd:d<=500
 sz:dT top v<=B
theorem jZ{d x:Int}:∀ {f:Nat} {lv:Int} {v:To},dY d x f lv v->dT f v<=1000000000000->iN f v
 | 0,_,_,_,_=>trivial
 | f+1,lv,v,h,hs=>by
  have hk:=GQ (f:=f) (v:=v);have q0:∀i e,(Bi v)[i]? = some e->iN f e:=fun i e he=>by
   have h1:=Lo (e:=.nil) h he;have h2:dT f (.nil:To)=0:=by cases f<;>rfl
   exact jZ (FV h he) (by omega)
  obtain⟨_,h⟩:=h;rcases h with⟨k,_,rfl⟩|⟨s,_,rfl⟩|⟨n,_,_,_,rfl⟩|⟨es,_,rfl⟩|⟨es,_,_,rfl⟩
  ·trivial
  ·trivial
  ·trivial
  ·refine⟨Bs hk hs,fun e he=>?_⟩;obtain⟨i,hi,e'⟩:=CH.1 he;exact q0 i e (show es[i]? = some e by grind)
  ·refine⟨by rw[<- BY (f:=E0)];exact Bs hk hs,fun p hp=>?_⟩;obtain⟨i,hi,e'⟩:=CH.1 hp;exact q0 i p.2 (show (es.map E0)[i]? = some p.2 by grind)
def fZ(p:List By):Prop:=(p.map fun t=>t.length+1).sum<=100000 /\ ∀t∈p,Ut t
theorem Jb:∀ (p:List By),p.length<=(p.map fun t=>t.length+1).sum /\ ∀t∈p,t.length<=(p.map fun t=>t.length+1).sum
 | []=>⟨AT _,fun t h=>by cases h⟩
 | a::r=>by
  obtain⟨h1,h2⟩:=Jb r
  grind
theorem fZ.len(h:fZ p):p.length<=100000:=Bs (Jb p).1 h.1
theorem fZ.tok(h:fZ p):∀t∈p,t.length<=100000:=fun t ht=>Bs ((Jb p).2 t ht) h.1
def Frs(w:A3)(xv:To)(x:Option Addr)(w1:A3):Prop:=AS w.heap.size w w1/\Tr top w.heap.size w1 (.pointer x) xv
theorem Frs.bel{w w1:A3}{xv:To}{x:Option Addr}(h:Frs w xv x w1)(hb:AS w1.heap.size w1 w2):Frs w xv x w2:=
 ⟨h.1.trans (hb.mono h.1.size),h.2.move (AT _) fun k _ hk=>hb.block k hk⟩
theorem Uj{p:List Nat}{w:A3}{D i:Nat}{jn iv:CD}{ch:Bool}{Tb T c:dS}{Mb M:Nat->Prop}{wb:A3}{js:List dX}{key:By}{pa:Option Addr}{pl pc:Nat}(hL:f+1+p.length=L)(hJ:Bv L w D rv jn iv ch Tb Mb wb T M js)(hs:eD p T=some m)(hf:Ib m i key)(hr:B7 m key)(hl:js.length<=1000000000)(hp:Aw w (GA L Tb wb M) (.slice pa pl pc) path)(hc:Ad f w (.pointer px) c)(q4:(fp f c).Nodup)(q0:∀k∈fp f c,¬ M k/\k ∉ fp L T/\k≠D/\jn.ownBlock≠some k/\wb.heap.size<=k):
  A1 AI 205 #[.pointer (some ⟨D,0,none⟩),plV (.slice pa pl pc) (eK m) key i,.pointer px] w fun e w'=>e=.returned (.tuple #[]) /\
   BU L D rv iv ch Tb Mb wb (eI p (B0 i key c m) T) M (js++[(1,path,.nil)]) w w':=by
 subst hL;exact KV hJ hs hf hr hl hp hc q4 q0
theorem Od{p:List Nat}{w:A3}{D i:Nat}{jn iv:CD}{ch:Bool}{Tb T c x:dS}{Mb M:Nat->Prop}{wb:A3}{js:List dX}{key:By}{pa:Option Addr}{pl pc:Nat}(hL:f+1+p.length=L)(hJ:Bv L w D rv jn iv ch Tb Mb wb T M js)(hs:eD p T=some m)(hf:AV m i key c)(hr:B7 m key)(hl:js.length<=1000000000)(hp:Aw w (GA L Tb wb M) (.slice pa pl pc) path)(q0:f<=top)(hx:Ad f w (.pointer px) x)(q5:(fp f x).Nodup)(q4:∀k∈fp f x,¬ M k/\k ∉ fp L T/\k≠D/\jn.ownBlock≠some k/\wb.heap.size<=k):
  A1 AI 160 #[.pointer (some ⟨D,0,none⟩),plV (.slice pa pl pc) (eK m) key i,.pointer px] w fun e w'=>e=.returned (.tuple #[]) /\
   BU L D rv iv ch Tb Mb wb (eI p (BM i key x m) T) M (js++[(2,path,dV f c)]) w w':=by
 subst hL;exact Yw hJ hs hf hr hl hp q0 hx q5 q4
theorem Qo{p:List Nat}{w:A3}{D i:Nat}{jn iv:CD}{ch:Bool}{Tb T x:dS}{Mb M:Nat->Prop}{wb:A3}{js:List dX}{key:By}{pa:Option Addr}{pl pc:Nat}{b:Nat}{es:List (Lit×dS)}(hL:f+1+p.length=L)(hJ:Bv L w D rv jn iv ch Tb Mb wb T M js)(hs:eD p T=some (dW b g (.map es)))(hf:∀p∈es,p.1≠C1 key)(hr:B7 (dW b g (.map es)) key)(hl:js.length<=1000000000)(hp:Aw w (GA L Tb wb M) (.slice pa pl pc) path)(hx:Ad f w (.pointer px) x)(q4:(fp f x).Nodup)(q0:∀k∈fp f x,¬ M k/\k ∉ fp L T/\k≠D/\jn.ownBlock≠some k/\wb.heap.size<=k):
  A1 AI 160 #[.pointer (some ⟨D,0,none⟩),plV (.slice pa pl pc) b key i,.pointer px] w fun e w'=>e=.returned (.tuple #[]) /\
   BU L D rv iv ch Tb Mb wb (eI p (B0 i key x (dW b g (.map es))) T) M (js++[(1,path,.nil)]) w w':=by
 subst hL;exact VS hJ hs hf hr hl hp hx q4 q0
section
variable{w w':A3}{D R:Nat}{wp:Option Addr}{jn iv:CD}{ch:Bool}{Tb T a:dS}{Mb M:Nat->Prop}{wb:A3}{v:To}{js:List dX}
theorem JS.done{T1 a1:dS}{v':To}(h:BU (top+1) D (.pointer (some ⟨R,0,none⟩)) iv ch Tb Mb wb T1 M js w w')(e:T1=dW R g (.slice [a1] []))(hv:dV top a1=v'):
  ∃wp jn T a M',JS w' D R wp jn iv ch Tb Mb wb T a v' M' js/\JEx M M' w w':=by
 obtain⟨q0,T',M',q1,q2,q3⟩:=h;rw[e] at q1;obtain⟨wp,a,hj⟩:=JS.of q2 q1;rw[hv] at hj;exact⟨wp,q0,T',a,M',hj,q3⟩
theorem JS.ok{T1 a1:dS}{v':To}{j:List dX}(h:BU (top+1) D (.pointer (some ⟨R,0,none⟩)) iv ch Tb Mb wb T1 M (js++j) w w')(e:T1=dW R g (.slice [a1] []))(hv:dV top a1=v'):
  AO D R iv ch Tb Mb wb M js w (.ok (v',j)) (.returned (.int .i64 0)) w':=⟨rfl,JS.done h e hv⟩
theorem JS.err{c:Nat}(h:JS w D R wp jn iv ch Tb Mb wb T a v M js)(hb:AS w.heap.size w w'):AO D R iv ch Tb Mb wb M js w (.error c) (.returned (.int .i64 c)) w':=
 ⟨rfl,wp,jn,T,a,v,M,js,h.bel hb,(h.j.bel hb).2⟩
theorem JEx.below{M':Nat->Prop}(h:AS w.heap.size w w')(hM:∀k,M k->k<w.heap.size)(k:JEx M M' w' w2):JEx M M' w w2:=
 ⟨k.os.trans h.os,k.tape.trans h.tape,k.output.trans h.output,Bs h.size k.size,fun j hj=>⟨(k.kept j hj).1,(k.kept j hj).2.trans (h.block j (hM j hj))⟩⟩
theorem AO.below{js:List dX}{r:Except Nat (To×List dX)}{e:Ending}(h:AS w.heap.size w w')(hM:∀k,M k->k<w.heap.size)(k:AO D R iv ch Tb Mb wb M js w' r e w2):AO D R iv ch Tb Mb wb M js w r e w2:=by
 cases r with
 | ok vj=>
  obtain⟨rfl,wp,jn,T,a,M',h1,h2⟩:=k;exact⟨rfl,wp,jn,T,a,M',h1,JEx.below h hM h2⟩
 | error c=>
  obtain⟨rfl,wp,jn,T,a,v,M',q0,h1,h2⟩:=k;exact⟨rfl,wp,jn,T,a,v,M',q0,h1,JEx.below h hM h2⟩
theorem JS.new(h:JS w D R wp jn iv ch Tb Mb wb T a v M js){k:Nat}(hk:w.heap.size<=k):¬ M k/\k ∉ fp (top+1) T/\k≠D/\jn.ownBlock≠some k/\wb.heap.size<=k:=
 ⟨fun hm=>by have:=(h.j.low k hm).1;omega,fun hm=>by have:=h.j.tr.lt k hm;omega,fun e=>by have:=h.j.dlt;omega,fun e=>by have:=h.j.jlt k e;omega,Bs h.j.up.1 hk⟩
theorem JS.node{d x:Int}{B:Nat}{q:List Nat}{u:CD}(h:JS w D R wp jn iv ch Tb Mb wb T a v M js)(hg:eG d x B v)(hq:f+1+q.length=top)(hs:eD q a=some m)(hu:Ad (f+1) w u m):
  f+1+(0::q).length=top+1/\eD (0::q) T=some m/\1000<=f/\(AJ m).length<=B/\dY d x (f+1) (1+q.length) (dV (f+1) m)/\dT (f+1) (dV (f+1) m)<=B/\Bj q v=some (dV (f+1) m):=by
 obtain⟨g,e⟩:=h.t.one;have hv:=h.t.str;have q0:Bj q v=some (dV (f+1) m):=by
  rw[<- hv,<- hq];exact Ha (f:=f+1) (by rw[hq];exact h.t.sub) hs
 have q4:dY d x (f+1+q.length) 1 v:=by rw[hq];exact hg.gd
 have h1:=OQ q4 q0;have h2:=Fv h1;have h3:=hg.dd;have h4:=NQ q4 q0;rw[hq] at h4;have h5:=GQ (f:=f) (v:=dV (f+1) m);rw[DQ hu,BY] at h5;have h6:=hg.sz;have ht:=E1;refine⟨by simp;omega,?_,by omega,by omega,h1,by omega,q0⟩;rw[e];exact hs
theorem JS.value{q:List Nat}{m':dS}{w0:A3}(h:JS w0 D R wp jn iv ch Tb Mb wb T a v M js)(e:T=dW R g (.slice [a] []))(hq:f+1+q.length=top)(hs:eD q a=some m):
  eI (0::q) m' T=dW R g (.slice [eI q m' a] [])/\dV top (eI q m' a)=As q (dV (f+1) m') v:=by
 refine⟨?_,?_⟩
 ·rw[e,BN (c:=a) m' rfl];rfl
 ·have hv:=h.t.str;have h1:=Qh (w:=w0) (p:=q) (f:=f+1) (u:=.pointer wp) (a:=a) (n:=m) m' (by rw[hq];exact h.t.sub) hs;rw[hq,hv] at h1;exact h1
end
theorem Ka{w:A3}{F:Nat->Prop}{d x:Int}{B:Nat}{xv:To}{y:Option Addr}(h:Rep top F w (.pointer y) xv)(hx:eG d x B xv)(hB:B<=1000000000):
  A1 AI 201 #[.pointer y] w fun e w'=>∃x,e=.returned (.pointer x)/\Hid (Frs w xv x w'):=by
 refine (G6 top xv (jZ hx.gd (by have:=hx.sz;omega)) F w _ h).mono ?_;rintro e w' ⟨p,rfl,hb,ht⟩;exact⟨some p,rfl,hb,ht⟩
theorem Frs.at{w w1:A3}{d x:Int}{B:Nat}{xv:To}{y:Option Addr}{D R:Nat}{wp:Option Addr}{jn iv:CD}{ch:Bool}{Tb T a:dS}{Mb M:Nat->Prop}{wb:A3}{v:To}{js:List dX}(h:JS w D R wp jn iv ch Tb Mb wb T a v M js)(hf:Frs w xv y w1)(hx:eG d x B xv)(h1:1000<=f)(h2:f<=top):
  ∃ax,Ad f w1 (.pointer y) ax/\dV f ax=xv/\dV top ax=xv/\(fp f ax).Nodup/\(∀k∈fp f ax,w.heap.size<=k/\k<w1.heap.size) /\ ∀k∈fp f ax,¬ M k/\k ∉ fp (top+1) T/\k≠D/\jn.ownBlock≠some k/\wb.heap.size<=k:=by
 obtain⟨_,ax,a1,a2,a3,a4⟩:=hf;obtain⟨b1,b2,b3⟩:=a1.fit (f:=f) (by rw[a2];exact Ci hx.gd (by have:=hx.dd;omega)) h2;have hlt:=a1.lt;exact⟨ax,b1,b3.trans a2,a2,b2▸a3,by grind,fun k hk=>h.new (a4 k (b2▸hk))⟩
section
variable{w:A3}{D R:Nat}{wp:Option Addr}{jn iv:CD}{ch:Bool}{Tb T a:dS}{Mb M:Nat->Prop}{wb:A3}{v xv:To}{js:List dX}{y:Option Addr}{F:Nat->Prop}{d x:Int}{B:Nat}
theorem Nh{pa:Option Addr}{cap:Nat}(h:JS w D R wp jn iv ch Tb Mb wb T a v M js)(hx:eG d x B xv)(hB:B<=1000000000)(hl:js.length<=1000000000)(hy:Rep top F w (.pointer y) xv):
  A1 AI 197 #[.pointer (some ⟨D,0,none⟩),.slice pa 0 cap,.pointer y] w fun e w'=>AO D R iv ch Tb Mb wb M js w (.ok (xv,[(2,[],v)])) e w':=by
 obtain⟨g,eT⟩:=h.t.one;have hM:∀k,M k->k<w.heap.size:=fun k hk=>(h.j.low k hk).1;refine (Xm (R:=R) (Q:=fun w'=>AO D R iv ch Tb Mb wb M js w (.ok (xv,[(2,[],v)])) (.returned (.int .i64 0)) w') (Ka hy hx hB) (fun z w1 hq=>?_) (fun z w1 hq=>?_)).mono ?_
 ·exact (h.bel hq.1).t.db.c0
 ·have h1:=h.bel hq.1;obtain⟨ax,b1,b2,q4,b3,b4,b5⟩:=Frs.at h hq hx (f:=top) (by have:=E1;omega) (AT _);have hp:=Od (f:=top) (p:=[]) (i:=0) (key:=[]) (path:=[]) (pa:=none) (pl:=0) (pc:=0) (c:=a) (m:=T) (L:=top+1) rfl h1.j rfl (C2 ⟨R,g,[a],eT,rfl⟩) (by rw[eT];exact⟨by rw[BW];simp,by simp⟩) hl (C2 (by grind)) (AT _) b1 b3 b5;have q0:eK T=R:=by rw[eT];rfl
  rw[q0] at hp;refine hp.mono ?_;rintro e w' ⟨rfl,he⟩;refine⟨rfl,AO.below hq.1 hM (JS.ok (T1:=eI [] (BM 0 [] ax T) T) (g:=g) (a1:=ax) ?_ ?_ q4)⟩
  ·have:=h.t.str
   grind
  ·rw[eT];rfl
 grind
theorem Qk{i:Nat}(h:D4 n t=.ok i):i<=n:=by
 unfold D4 at h;split at h
 ·injection h with h;omega
 ·split at h
  ·cases h
  ·split at h
   ·cases h
   ·injection h with h;omega
theorem NX{c:Nat}(h:D4 n t=.error c):c≠0:=by
 unfold D4 at h;split at h
 ·cases h
 ·split at h
  ·injection h with h;omega
  ·split at h
   ·injection h with h;omega
   ·cases h
theorem Cj{d:To}{c:Nat}(h:Ah d s=.error c):c≠0:=by
 induction s generalizing d with
 | nil=>cases h
 | cons t r ih=>
  unfold Ah at h;split at h
  ·exact ih h
  ·rename_i c' hc;injection h with h;have:=Fe hc;omega
theorem Dh{d:To}{q:List Nat}(h:A8 d s=some q):iL d s=q:=by unfold iL;rw[h];rfl
theorem DN(s:List By)(t:By):DO (s++[t])=some (s,t):=by unfold DO;simp
theorem Ai.bel{w w':A3}(h:Ai w)(hb:AS w.heap.size w w'):Ai w':=h.below (hb.mono h.ng)
theorem Zr{o cap:Nat}(h:JS w D R wp jn iv ch Tb Mb wb T a v M js)(hT:Ai w)(hv:eG d x B v)(hx:eG d x B xv)(hB:B<=900000000)(hl:js.length<=1000000000)(hy:Rep top F w (.pointer y) xv)(hn:n=s.length)(hc:n+1<=cap)(qk:cap<=maxLen)(z7:GA (top+1) Tb wb M g)(hp:C7 w g o (s++[t]))(qn:fZ (s++[t])):
  A1 AI 197 #[.pointer (some ⟨D,0,none⟩),.slice (some ⟨g,o,none⟩) (n+1) cap,.pointer y] w fun e w'=>AO D R iv ch Tb Mb wb M js w (Cq v (s++[t]) xv) e w':=by
 have hM:∀k,M k->k<w.heap.size:=fun k hk=>(h.j.low k hk).1;have p1:=qn.len;have p2:=qn.tok;have qq:∀u∈s,u.length<=1048576:=by grind
 have qe:t.length<=1048576:=by grind
 have hsl:s.length<=1048576:=by grind
 have q0:=Ka hy hx (B:=B) (by omega);have qi:∀w1,AS w.heap.size w w1->C7 w1 g o (s++[t]):=fun w1 hb=>hp.move (hb.block g hp.1);have q9:∀ {r:Except Nat (To×List dX)} {e:Ending} {w1 w2:A3},AS w.heap.size w w1->AO D R iv ch Tb Mb wb M js w1 r e w2->AO D R iv ch Tb Mb wb M js w r e w2:=fun hb k=>AO.below hb hM k;subst hn;unfold Cq;rw[DN];simp only;cases hf:Ah v s with
 | error c=>
  refine (Xl (t:=t) (Cj hf) (Q:=fun w'=>AS w.heap.size w w') q0 (fun z w1 hq=>(Ky (h.bel hq.1) (hT.bel hq.1).rng (qi w1 hq.1) rfl hc qk qq hsl hf).mono ?_)).mono ?_
  ·rintro e w' ⟨rfl,hb⟩;exact⟨rfl,hq.1.trans (hb.mono hq.1.size)⟩
  ·rintro e w' ⟨rfl,hb⟩;exact h.err hb
 | ok nv=>
  have qr:=h.t.str;have hf2:=hf;rw[<- qr] at hf2;obtain⟨f,q,m,u,e1,e2,e3,e4,e5⟩:=CG h.t.sub hf2;obtain⟨g',eT⟩:=h.t.one;obtain⟨n1,n2,n3,n4,n5,n6,n7⟩:=h.node hv e1 e2 e3;rw[qr] at e5;obtain⟨k1,k2⟩:=h.value (m':=m) eT e1 e2;obtain⟨ub,rfl,_⟩:=e3.ptr;have q6:∀z w1,Frs w xv z w1->A1 AI 243 #[.pointer (some ⟨D,0,none⟩),.slice (some ⟨g,o,none⟩) (s.length+1) cap] w1 fun e w'=>e=.returned (.tuple #[.pointer (some ⟨ub,0,none⟩),.string ⟨t.toArray⟩,.int .i64 0])/\Frs w xv z w':=fun z w1 hq=>by
   refine (IA (h.bel hq.1) (hT.bel hq.1).rng (qi w1 hq.1) rfl hc qk qq hsl hf e2 (e3.bel hq.1) e5).mono ?_;rintro e w' ⟨rfl,hb⟩;exact⟨rfl,hq.bel hb⟩
  have qb:f<=top:=by omega
  have qf:=e3;obtain⟨b,gg,xx,rfl,q8,qf⟩:=qf;injection q8 with q8;injection q8 with q8;injection q8 with q8 _ _;subst q8;simp only;rw[<- e4];rcases qf with⟨k,hk,_,rfl,hvb⟩|⟨nm,_,rfl,hvb,z6⟩|⟨st,_,rfl,hvb⟩|⟨al,sl,ps,rfl,hvb,ho,hs,ha⟩|⟨es,nn,DD,rfl,hvb,ho,za⟩
  ·refine (IU (t:=t) (b:=ub) (k:=k) (by omega) (by omega) (Q1:=Frs w xv) (Q:=fun w'=>AS w.heap.size w w') q0 (fun z w1 hq=>(q6 z w1 hq).mono ?_) (fun w2 hb=>?_)).mono ?_
   ·rintro e w' ⟨rfl,hb⟩;exact⟨rfl,hb.1⟩
   ·exact (hb.cell (p:=⟨_,0,none⟩) hvb.lt).trans hvb.c0
   ·rintro e w' ⟨rfl,hb⟩;exact h.err hb
  ·refine (IU (t:=t) (b:=ub) (k:=3) (by omega) (by omega) (Q1:=Frs w xv) (Q:=fun w'=>AS w.heap.size w w') q0 (fun z w1 hq=>(q6 z w1 hq).mono ?_) (fun w2 hb=>?_)).mono ?_
   ·rintro e w' ⟨rfl,hb⟩;exact⟨rfl,hb.1⟩
   ·exact (hb.cell (p:=⟨_,0,none⟩) hvb.lt).trans hvb.c0
   ·rintro e w' ⟨rfl,hb⟩;exact h.err hb
  ·refine (IU (t:=t) (b:=ub) (k:=4) (by omega) (by omega) (Q1:=Frs w xv) (Q:=fun w'=>AS w.heap.size w w') q0 (fun z w1 hq=>(q6 z w1 hq).mono ?_) (fun w2 hb=>?_)).mono ?_
   ·rintro e w' ⟨rfl,hb⟩;exact⟨rfl,hb.1⟩
   ·exact (hb.cell (p:=⟨_,0,none⟩) hvb.lt).trans hvb.c0
   ·rintro e w' ⟨rfl,hb⟩;exact h.err hb
  ·-- an array
   have qw:al.length<=B:=n4;have qo:ps.length=al.length:=ha.length;have q4:∀z w2,Frs w xv z w2->VB w2 ub 5 n0 [] sl (.map none)/\w2.ownsRow 0 80 1 sl ps.length ps:=fun z w2 hq=>by
    refine⟨hvb.kept (hq.1.block _ hvb.lt),Be ho fun g1 qu=>hq.1.block _ (Ay ho g1 qu).1⟩
   cases hsl2:D4 al.length t with
   | error c=>
    have hr:De v s t (dV (f+1) (dW ub gg (.slice al []))) xv=.error c:=by
     rw[Bq];unfold De Af
     grind
    rw[hr];refine (U6 (t:=t) (b:=ub) (NX hsl2) (Q1:=Frs w xv) (Q2:=Frs w xv) (Q:=fun w'=>AS w.heap.size w w') q0 q6 (fun z w2 hq=>(q4 z w2 hq).1.c0) (fun z w2 hq=>?_)).mono ?_
    ·obtain⟨c1,c2⟩:=q4 z w2 hq;refine (NY qe (hT.bel hq.1).rng c1 c2).mono ?_;rintro e w' ⟨rfl,hb⟩;rw[qo,hsl2];exact⟨rfl,hq.1.trans (hb.mono hq.1.size)⟩
    ·rintro e w' ⟨rfl,hb⟩;exact h.err hb
   | ok i=>
    have hi:=Qk hsl2;have hr:De v s t (dV (f+1) (dW ub gg (.slice al []))) xv=.ok (As q (FT i iY xv (dV (f+1) (dW ub gg (.slice al [])))) v,[(1,s++[D3 (i:Int)],.nil)]):=by
     rw[Bq];unfold De Af;simp only[BY,hsl2,Dh e5]
    rw[hr];refine (Xn (b:=ub) (i:=i) (Q1:=Frs w xv) (Q2:=Frs w xv) (Q3:=Frs w xv) (Q4:=fun z g2 c2 w4=>∃w3,Frs w xv z w3/\AS w3.heap.size w3 w4/\w4.ownsRow w3.heap.size 9 1 (.slice (some ⟨g2,0,none⟩) (s.length+1) c2) (s.length+1) (Nw (s++[D3 (i:Int)])))
     (Q:=fun w'=>AO D R iv ch Tb Mb wb M js w (.ok (As q (FT i iY xv (dV (f+1) (dW ub gg (.slice al [])))) v,[(1,s++[D3 (i:Int)],.nil)])) (.returned (.int .i64 0)) w')
     q0 q6 (fun z w2 hq=>(q4 z w2 hq).1.c0) (fun z w2 hq=>?_) (fun z w3 hq=>?_) (fun z g2 c2 w4 hq=>?_)).mono ?_
    ·obtain⟨c1,c2⟩:=q4 z w2 hq;refine (NY qe (hT.bel hq.1).rng c1 c2).mono ?_;rintro e w' ⟨rfl,hb⟩;rw[qo,hsl2];exact⟨rfl,hq.bel hb⟩
    ·refine (PZ (l:=s++[t]) (hT.bel hq.1) (qi w3 hq.1) (by simp) (by simp;omega) (by omega)).mono ?_
     grind
    ·obtain⟨w3,qd,hb3,qh⟩:=hq;have qy:=qd.1.trans (hb3.mono qd.1.size);obtain⟨g3,qt,ev,r1,r2,r3,r4⟩:=Bm qh (by omega);injection ev with ev _ ev3;injection ev with ev;injection ev with ev _ _;subst ev;subst ev3;have qv:w3.heap.size<=g2/\g2<w4.heap.size:=⟨(AA qh g2 rfl).2,(AA qh g2 rfl).1⟩
     obtain⟨ax,b1,b2,qj,b3,b4,b5⟩:=Frs.at h qd hx n3 qb;have zb:=qd.1.size;obtain⟨hG,hE⟩:=h.grow qy (fun k=>k=g2) (by omega);have qg:=Uj (i:=i) (key:=[]) (path:=s++[D3 (i:Int)]) (pa:=some ⟨g2,0,none⟩) (pl:=s.length+1) (pc:=c2) (m:=dW ub gg (.slice al [])) (c:=ax) (px:=z) n1 hG.j n2 (C2 ⟨ub,gg,al,rfl,hi⟩) ⟨by omega,by simp⟩ hl
      (D0 ⟨g2,0,c2,by simp,by grind,r2,⟨D0 rfl,C2 (by have:=h.j.up.1;omega)⟩,qv.2,by grind⟩) (b1.bel hb3) b3 (by grind)
     refine qg.mono ?_;rintro e w5 ⟨rfl,qz,T',M',q1,q2,q3⟩;refine⟨rfl,?_⟩;obtain⟨k1,k2⟩:=h.value (m':=B0 i [] ax (dW ub gg (.slice al []))) eT e1 e2;rw[Qi (C2 ⟨_,_,_,rfl⟩),b2] at k2;rw[k1] at q1;obtain⟨z1,a',hj⟩:=JS.of q2 q1;rw[k2] at hj;exact⟨rfl,z1,qz,T',a',M',hj,hE.trans q3⟩
    grind
  ·-- an object
   have qw:es.length<=B:=by rw[<- BY (f:=E0)];exact n4
   have q4:∀z w2,Frs w xv z w2->w2.cell? ⟨ub,0,none⟩=some (.int .i64 6):=fun z w2 hq=>(hvb.kept (hq.1.block _ hvb.lt)).c0;have q5:Az (es.map fun p=>(p.1,dV f p.2)):=by
    obtain⟨_,hh⟩:=n5;rw[AX] at hh;rcases hh with⟨_,_,hh⟩|⟨_,_,hh⟩|⟨_,_,_,_,hh⟩|⟨_,_,hh⟩|⟨es',h1,h2,hh⟩
    ·cases hh
    ·cases hh
    ·cases hh
    ·cases hh
    ·injection hh with hh;subst hh;exact⟨h1,by grind⟩
   have qp:Az es:=by
    refine⟨?_,fun p hp=>q5.2 (p.1,dV f p.2) (by grind)⟩;have:=q5.1
    grind
   have q7:∀w1,AS w.heap.size w w1->Aw w1 (GA (top+1) Tb wb M) (.slice (some ⟨g,o,none⟩) (s.length+1) cap) (s++[t]):=fun w1 hb=>D0 (by grind);cases hh:Maps.has (.map (es.map fun p=>(p.1,dV f p.2)):To) (.string t) with
   | true=>
    obtain⟨p',qx,qm,hk2⟩:=QN (Ql q5.1 q5.2) q5.2 hh;obtain⟨p0,z8,rfl⟩:=Dt.1 qx;obtain⟨k0,c0⟩:=p0;simp only at qm hk2;subst qm;have hr:De v s t (dV (f+1) (dW ub gg (.map es))) xv=.ok (As q (He 0 t xv (dV (f+1) (dW ub gg (.map es)))) v,[(2,s++[t],dV f c0)]):=by
     rw[AX];unfold De Ap;simp only[if_pos hh,Dh e5,hk2]
    rw[hr];refine (Pd (Q1:=Frs w xv) (Q2:=Frs w xv) (Q:=fun w'=>AO D R iv ch Tb Mb wb M js w (.ok (As q (He 0 t xv (dV (f+1) (dW ub gg (.map es)))) v,[(2,s++[t],dV f c0)])) (.returned (.int .i64 0)) w') q0 q6 q4 (fun z w2 hq=>?_)).mono ?_
    ·obtain⟨ax,b1,b2,qj,b3,b4,b5⟩:=Frs.at h hq hx n3 qb;refine (Od (i:=0) (key:=t) (m:=dW ub gg (.map es)) (c:=c0) n1 (h.bel hq.1).j n2 (D0 (by grind)) ⟨by omega,qe⟩ hl (q7 w2 hq.1) qb b1 b3 b5).mono ?_;rintro e w' ⟨rfl,he⟩;obtain⟨k1,k2⟩:=h.value (m':=BM 0 t ax (dW ub gg (.map es))) eT e1 e2;rw[Qg (D0 ⟨_,_,_,rfl⟩),b2] at k2;exact⟨rfl,q9 hq.1 (JS.ok he k1 k2)⟩
    grind
   | false=>
    have hr:De v s t (dV (f+1) (dW ub gg (.map es))) xv=.ok (As q (FT 0 t xv (dV (f+1) (dW ub gg (.map es)))) v,[(1,s++[t],.nil)]):=by
     rw[AX];unfold De Ap;simp only[hh,Dh e5];rfl
    rw[hr];have hno:∀p∈es,p.1≠C1 t:=fun p hp e=>by
     have h1:Maps.has (.map (es.map fun p=>(p.1,dV f p.2)):To) (.string t)=true:=List.any_eq_true.2 ⟨_,Dt.2 ⟨p,hp,rfl⟩,by show p.1.sameKey _=true;rw[e];exact WideAt.sameKey_self (show WideAt.IsKeyLit (C1 t) from trivial)⟩
     grind
    refine (Pd (Q1:=Frs w xv) (Q2:=Frs w xv) (Q:=fun w'=>AO D R iv ch Tb Mb wb M js w (.ok (As q (FT 0 t xv (dV (f+1) (dW ub gg (.map es)))) v,[(1,s++[t],.nil)])) (.returned (.int .i64 0)) w') q0 q6 q4 (fun z w2 hq=>?_)).mono ?_
    ·obtain⟨ax,b1,b2,qj,b3,b4,b5⟩:=Frs.at h hq hx n3 qb;refine (Qo (i:=0) (key:=t) (b:=ub) (g:=gg) (es:=es) n1 (h.bel hq.1).j n2 hno ⟨by omega,qe⟩ hl (q7 w2 hq.1) b1 b3 b5).mono ?_;rintro e w' ⟨rfl,he⟩;obtain⟨k1,k2⟩:=h.value (m':=B0 0 t ax (dW ub gg (.map es))) eT e1 e2;rw[Qi (D0 ⟨_,_,_,rfl⟩),b2] at k2;exact⟨rfl,q9 hq.1 (JS.ok he k1 k2)⟩
    grind
theorem LO{pv:CD}(h:JS w D R wp jn iv ch Tb Mb wb T a v M js)(hT:Ai w)(hv:eG d x B v)(hx:eG d x B xv)(hB:B<=900000000)(hl:js.length<=1000000000)(hy:Rep top F w (.pointer y) xv)(hp:Aw w (GA (top+1) Tb wb M) pv p)(q5:fZ p):
  A1 AI 197 #[.pointer (some ⟨D,0,none⟩),pv,.pointer y] w fun e w'=>AO D R iv ch Tb Mb wb M js w (Cq v p xv) e w':=by
 rcases hp with⟨rfl,pa,c,rfl,_⟩|⟨g,o,cap,rfl,h1,h2,h3,h4⟩
 ·exact Nh h hx (by omega) hl hy
 ·by_cases q4:p=[]
  ·subst q4;exact Nh h hx (by omega) hl hy
  ·obtain⟨s,t,rfl⟩:∃s t,p=s++[t]:=⟨p.dropLast,p.getLast q4,(A4 q4).symm⟩
   have q0:(s++[t]).length=s.length+1:=by simp
   rw[q0] at h1 |-;exact Zr h hT hv hx hB hl hy rfl h1 h2 h3 h4 q5
end
abbrev opV(k:Nat)(pa:Option Addr)(pl pc:Nat)(fa:Option Addr)(fl fc:Nat)(y:Option Addr):CD:=.agg #[.int .i64 k,.slice pa pl pc,.slice fa fl fc,.pointer y]
def OpB(w:A3)(q k:Nat)(pa:Option Addr)(pl pc:Nat)(fa:Option Addr)(fl fc:Nat)(y:Option Addr):Prop:=w.heap[q]? = some (.cells #[.int .i64 k,.slice pa pl pc,.slice fa fl fc,.pointer y] 178 (0,0))
section
variable{w:A3}{q k:Nat}{pa fa y:Option Addr}{pl pc fl fc:Nat}
theorem OpB.lt(h:OpB w q k pa pl pc fa fl fc y):q<w.heap.size:=(A6.1 h).1
theorem OpB.c0(h:OpB w q k pa pl pc fa fl fc y):w.cell? ⟨q,0,none⟩=some (.int .i64 k):=by simp[CL,show w.heap[q]? = _ from h]
theorem OpB.c1(h:OpB w q k pa pl pc fa fl fc y):w.cell? ⟨q,1,none⟩=some (.slice pa pl pc):=by simp[CL,show w.heap[q]? = _ from h]
theorem OpB.c2(h:OpB w q k pa pl pc fa fl fc y):w.cell? ⟨q,2,none⟩=some (.slice fa fl fc):=by simp[CL,show w.heap[q]? = _ from h]
theorem OpB.c3(h:OpB w q k pa pl pc fa fl fc y):w.cell? ⟨q,3,none⟩=some (.pointer y):=by simp[CL,show w.heap[q]? = _ from h]
theorem OpB.low{w':A3}(h:OpB w q k pa pl pc fa fl fc y)(hb:AS w.heap.size w w'):OpB w' q k pa pl pc fa fl fc y:=(hb.block q h.lt).trans h
end
section
variable{w:A3}{D k b i:Nat}{pa fa qa y:Option Addr}{pl pc fl fc ql qc c:Nat}{key:By}{Q:A3->Prop}
theorem UT{Q:Nat->A3->Prop}(hA:∀w1,AS w.heap.size w w1->A1 AI 197 #[.pointer (some ⟨D,0,none⟩),.slice pa pl pc,.pointer y] w1 fun e w'=>∃c:Nat,e=.returned (.int .i64 c)/\Hid (Q c w')):
  A1 AI 151 #[.pointer (some ⟨D,0,none⟩),opV k pa pl pc fa fl fc y] w fun e w'=>∃c:Nat,e=.returned (.int .i64 c)/\Q c w':=by
 have HA:=Ab hA;have q0:=Ab ((A5 w.heap.size w).alloc (AT _) (.cells #[.int .i64 k,.slice pa pl pc,.slice fa fl fc,.pointer y] 178));clear hA
 go_enter func151,ntmps151
 go_wp2_with (fail);refine (Aa HA _ (Aa q0)).mono ?_
 rintro e w2 ⟨c,rfl,hq⟩
 go_wp2_with (fail)
 go_ret;exact⟨c,rfl,Aa hq⟩
theorem O4:A1 AI 152 #[.pointer (some ⟨D,0,none⟩),opV k pa 0 pc fa fl fc y] w fun e w'=>e=.returned (.int .i64 11)/\AS w.heap.size w w':=by
 have q0:=Ab ((A5 w.heap.size w).alloc (AT _) (.cells #[.int .i64 k,.slice pa 0 pc,.slice fa fl fc,.pointer y] 178))
 go_enter func152,ntmps152
 go_wp2_with (fail)
 go_ret;exact⟨rfl,Aa q0⟩
theorem O5(hl:pl≠0)(hc:c≠0)(hT:∀w1,AS w.heap.size w w1->A1 AI 198 #[.pointer (some ⟨D,0,none⟩),.slice pa pl pc] w1 fun e w'=>e=.returned (.tuple #[plZ,.int .i64 c])/\AS w1.heap.size w1 w'):
  A1 AI 152 #[.pointer (some ⟨D,0,none⟩),opV k pa pl pc fa fl fc y] w fun e w'=>e=.returned (.int .i64 c)/\AS w.heap.size w w':=by
 have HT:=Ab hT;have hob:OpB (w.alloc (.cells #[.int .i64 k,.slice pa pl pc,.slice fa fl fc,.pointer y] 178)) w.heap.size k pa pl pc fa fl fc y:=A2 w _;have q0:=(A5 w.heap.size w).alloc (AT _) (.cells #[.int .i64 k,.slice pa pl pc,.slice fa fl fc,.pointer y] 178);have q4:=Ab q0;have q5:=Ab hob;have hs:=q0.size;have e0:¬ ((pl:Int)=0):=by omega
 have e2:((c:Int) != 0)=true:=by rw[bne_iff_ne];omega
 have e3:((c:Int)==0)=false:=by rw[beq_eq_false_iff_ne];omega
 have b1:=hob.c1;clear hT hob q0 hc hl
 go_enter func152,ntmps152
 go_wp2_with (fail);generalize w.alloc (.cells #[.int .i64 k,.slice pa pl pc,.slice fa fl fc,.pointer y] 178)=wa at *
 go_wp2_with (fail);refine (Aa HT wa (Aa q4)).mono ?_
 rintro e w2 ⟨rfl,hb⟩;have hs2:=hb.size;have HB:=Ab ((Aa q4).trans (hb.mono (by omega)));clear hb b1
 go_wp2_with (fail)
 go_ret;exact⟨rfl,(Aa HB).alloc (by omega) _⟩
theorem PV(hl:pl≠0)(hT:∀w1,AS w.heap.size w w1->A1 AI 198 #[.pointer (some ⟨D,0,none⟩),.slice pa pl pc] w1 fun e w'=>e=.returned (.tuple #[plV (.slice qa ql qc) b key i,.int .i64 0])/\AS w1.heap.size w1 w')(hR:∀w1,AS w.heap.size w w1->A1 AI 199 #[.pointer (some ⟨D,0,none⟩),plV (.slice qa ql qc) b key i] w1 fun e w'=>e=.returned (.tuple #[])/\Q w'):
  A1 AI 152 #[.pointer (some ⟨D,0,none⟩),opV k pa pl pc fa fl fc y] w fun e w'=>e=.returned (.int .i64 0)/\Q w':=by
 have HT:=Ab hT;have HR:=Ab hR;have hob:OpB (w.alloc (.cells #[.int .i64 k,.slice pa pl pc,.slice fa fl fc,.pointer y] 178)) w.heap.size k pa pl pc fa fl fc y:=A2 w _;have q4:=(A5 w.heap.size w).alloc (AT _) (.cells #[.int .i64 k,.slice pa pl pc,.slice fa fl fc,.pointer y] 178);have q5:=Ab q4;have hs:=q4.size;have e0:¬ ((pl:Int)=0):=by omega
 have b1:=hob.c1;clear hT hR hob q4 hl
 go_enter func152,ntmps152
 go_wp2_with (fail);generalize w.alloc (.cells #[.int .i64 k,.slice pa pl pc,.slice fa fl fc,.pointer y] 178)=wa at *
 go_wp2_with (fail);refine (Aa HT wa (Aa q5)).mono ?_
 rintro e w2 ⟨rfl,hb⟩;have hs2:=hb.size;have q0:AL (plW w2 qa ql qc b key i) w2.heap.size (.slice qa ql qc) b key i:=A2 w2 _;have HB:=Ab (((Aa q5).trans (hb.mono (by omega))).alloc (by omega) (.cells #[.slice qa ql qc,.pointer (some ⟨b,0,none⟩),.string ⟨key.toArray⟩,.int .i64 i] 185));have e0:=q0.c0;have e1:=q0.c1;have e2:=q0.c2;have e3:=q0.c3;clear hb b1 q0
 go_wp2_with (fail);refine (Aa HR _ (Aa HB)).mono ?_
 rintro e w3 ⟨rfl,hq⟩;have HQ:=Ab hq;clear hq
 go_wp2_with (fail)
 go_ret;exact⟨rfl,Aa HQ⟩
theorem Nq(hc:c≠0)(hT:∀w1,AS w.heap.size w w1->A1 AI 198 #[.pointer (some ⟨D,0,none⟩),.slice pa pl pc] w1 fun e w'=>e=.returned (.tuple #[plZ,.int .i64 c])/\AS w1.heap.size w1 w'):
  A1 AI 153 #[.pointer (some ⟨D,0,none⟩),opV k pa pl pc fa fl fc y] w fun e w'=>e=.returned (.int .i64 c)/\AS w.heap.size w w':=by
 have HT:=Ab hT;have hob:OpB (w.alloc (.cells #[.int .i64 k,.slice pa pl pc,.slice fa fl fc,.pointer y] 178)) w.heap.size k pa pl pc fa fl fc y:=A2 w _;have q0:=(A5 w.heap.size w).alloc (AT _) (.cells #[.int .i64 k,.slice pa pl pc,.slice fa fl fc,.pointer y] 178);have q4:=Ab q0;have hs:=q0.size;have e2:((c:Int) != 0)=true:=by rw[bne_iff_ne];omega
 have e3:((c:Int)==0)=false:=by rw[beq_eq_false_iff_ne];omega
 have b1:=hob.c1;clear hT hob q0 hc
 go_enter func153,ntmps153
 go_wp2_with (fail);generalize w.alloc (.cells #[.int .i64 k,.slice pa pl pc,.slice fa fl fc,.pointer y] 178)=wa at *
 go_wp2_with (fail);refine (Aa HT wa (Aa q4)).mono ?_
 rintro e w2 ⟨rfl,hb⟩;have hs2:=hb.size;have HB:=Ab ((Aa q4).trans (hb.mono (by omega)));clear hb b1
 go_wp2_with (fail)
 go_ret;exact⟨rfl,(Aa HB).alloc (by omega) _⟩
theorem O3{Q1:Option Addr->A3->Prop}(hT:∀w1,AS w.heap.size w w1->A1 AI 198 #[.pointer (some ⟨D,0,none⟩),.slice pa pl pc] w1 fun e w'=>e=.returned (.tuple #[plV (.slice qa ql qc) b key i,.int .i64 0])/\AS w1.heap.size w1 w')(hC:∀w1,AS w.heap.size w w1->A1 AI 201 #[.pointer y] w1 fun e w'=>∃x,e=.returned (.pointer x)/\AS w1.heap.size w1 w'/\Hid (Q1 x w'))(hS:∀x w1 w2,Q1 x w1->AS w.heap.size w w1->AS w1.heap.size w1 w2->A1 AI 200 #[.pointer (some ⟨D,0,none⟩),plV (.slice qa ql qc) b key i,.pointer x] w2 fun e w'=>e=.returned (.tuple #[])/\Q w'):
  A1 AI 153 #[.pointer (some ⟨D,0,none⟩),opV k pa pl pc fa fl fc y] w fun e w'=>e=.returned (.int .i64 0)/\Q w':=by
 have HT:=Ab hT;have HC:=Ab hC;have HS:=Ab hS;have hob:OpB (w.alloc (.cells #[.int .i64 k,.slice pa pl pc,.slice fa fl fc,.pointer y] 178)) w.heap.size k pa pl pc fa fl fc y:=A2 w _;have q8:=(A5 w.heap.size w).alloc (AT _) (.cells #[.int .i64 k,.slice pa pl pc,.slice fa fl fc,.pointer y] 178);have q9:=Ab q8;have qe:=Ab hob;have hs:=q8.size;have b1:=hob.c1;clear hT hC hS hob q8
 go_enter func153,ntmps153
 go_wp2_with (fail);generalize w.alloc (.cells #[.int .i64 k,.slice pa pl pc,.slice fa fl fc,.pointer y] 178)=wa at *
 go_wp2_with (fail);refine (Aa HT wa (Aa q9)).mono ?_
 rintro e w2 ⟨rfl,hb⟩;have hs2:=hb.size;obtain⟨w3,q7⟩:∃w3,w3=w2.alloc (.cells #[.slice qa ql qc,.pointer (some ⟨b,0,none⟩),.string ⟨key.toArray⟩,.int .i64 i] 185):=⟨_,rfl⟩
 have q5:AL w3 w2.heap.size (.slice qa ql qc) b key i:=by rw[q7];exact A2 w2 _
 have qg:w2.heap.size<w3.heap.size:=(A6.1 q5).1;have q4:AS w2.heap.size w2 w3:=by rw[q7];exact (A5 _ _).alloc (AT _) _
 have hB:=((Aa q9).trans (hb.mono (by omega))).trans (q4.mono (by omega));have q6:OpB w3 w.heap.size k pa pl pc fa fl fc y:=((Aa qe).low hb).low q4;have qf:=Ab q5;have HB:=Ab hB;have qb:=Ab q7;have b3:=q6.c3;have e0:=q5.c0;have e1:=q5.c1;have e2:=q5.c2;have e3:=q5.c3;clear hb b1 q5 hB q6 q4 q7
 go_wp2_with (fail);rw[<- Aa qb]
 clear qb
 go_region_with (first
  | (go_at_call 201;refine (Aa HC _ ?_).mono ?_;exact⟨(Aa HB).os,(Aa HB).tape,(Aa HB).output,(Aa HB).size,(Aa HB).block⟩;rintro x w4 ⟨z,rfl,q0,qh⟩;replace q0:AS w3.heap.size w3 w4:=⟨q0.os,q0.tape,q0.output,q0.size,q0.block⟩;have p4:AL w4 w2.heap.size (.slice qa ql qc) b key i:=(q0.block _ qg).trans (Aa qf);have f0:=p4.c0;have f1:=p4.c1;have f2:=p4.c2;have f3:=p4.c3;have qd:=Ab q0;clear q0 p4)
  | (go_at_call 200;refine (Aa HS z w4 _ (Aa qh) ((Aa HB).trans ((Aa qd).mono (Aa HB).size)) ?_).mono ?_;exact⟨rfl,rfl,rfl,AT _,fun _ _=>rfl⟩;rintro x w5 ⟨rfl,hq⟩;have HQ:=Ab hq;clear hq))
 all_goals (
  go_wp2_with (fail)
  go_ret;exact⟨rfl,Aa HQ⟩)
end
section
variable{w:A3}{D k b i:Nat}{pa fa qa y wp:Option Addr}{pl pc fl fc ql qc c:Nat}{key:By}{Q:A3->Prop}
theorem Sh(hc:c≠0)(hT:∀w1,AS w.heap.size w w1->A1 AI 198 #[.pointer (some ⟨D,0,none⟩),.slice fa fl fc] w1 fun e w'=>e=.returned (.tuple #[plZ,.int .i64 c])/\AS w1.heap.size w1 w'):
  A1 AI 154 #[.pointer (some ⟨D,0,none⟩),opV k pa pl pc fa fl fc y] w fun e w'=>e=.returned (.int .i64 c)/\AS w.heap.size w w':=by
 have HT:=Ab hT;have hob:OpB (w.alloc (.cells #[.int .i64 k,.slice pa pl pc,.slice fa fl fc,.pointer y] 178)) w.heap.size k pa pl pc fa fl fc y:=A2 w _;have q0:=(A5 w.heap.size w).alloc (AT _) (.cells #[.int .i64 k,.slice pa pl pc,.slice fa fl fc,.pointer y] 178);have q4:=Ab q0;have hs:=q0.size;have e2:((c:Int) != 0)=true:=by rw[bne_iff_ne];omega
 have e3:((c:Int)==0)=false:=by rw[beq_eq_false_iff_ne];omega
 have b2:=hob.c2;clear hT hob q0 hc
 go_enter func154,ntmps154
 go_wp2_with (fail);generalize w.alloc (.cells #[.int .i64 k,.slice pa pl pc,.slice fa fl fc,.pointer y] 178)=wa at *
 go_wp2_with (fail);refine (Aa HT wa (Aa q4)).mono ?_
 rintro e w2 ⟨rfl,hb⟩;have hs2:=hb.size;have HB:=Ab ((Aa q4).trans (hb.mono (by omega)));clear hb b2
 go_wp2_with (fail)
 go_ret;exact⟨rfl,(Aa HB).alloc (by omega) _⟩
structure Js(w:A3)(k:Nat)(pa:Option Addr)(pl pc:Nat)(fa:Option Addr)(fl fc:Nat)(y:Option Addr)(qa:Option Addr)(ql qc b:Nat)(key:By)(i q:Nat)(w3:A3):Prop where
 bel:AS w.heap.size w w3
 op:OpB w3 w.heap.size k pa pl pc fa fl fc y
 pb:AL w3 q (.slice qa ql qc) b key i
 le:w.heap.size<q
theorem Js.low{w w3 w4:A3}{q:Nat}(h:Js w k pa pl pc fa fl fc y qa ql qc b key i q w3)(hb:AS w3.heap.size w3 w4):Js w k pa pl pc fa fl fc y qa ql qc b key i q w4:=
 ⟨h.bel.trans (hb.mono h.bel.size),h.op.low hb,(hb.block q (A6.1 h.pb).1).trans h.pb,h.le⟩
theorem Js.mk'{w wa w3:A3}(h1:AS w.heap.size w wa)(h2:OpB wa w.heap.size k pa pl pc fa fl fc y)(hb:AS wa.heap.size wa w2)(q0:w3=w2.alloc (.cells #[.slice qa ql qc,.pointer (some ⟨b,0,none⟩),.string ⟨key.toArray⟩,.int .i64 i] 185)):Js w k pa pl pc fa fl fc y qa ql qc b key i w2.heap.size w3:=by
 have hs:=hb.size;have h3:=h2.lt;have hb2:AS w2.heap.size w2 w3:=by rw[q0];exact (A5 _ _).alloc (AT _) _
 refine⟨(h1.trans (hb.mono h1.size)).trans (hb2.mono (by have:=h1.size;omega)),(h2.low hb).low hb2,by rw[q0];exact A2 w2 _,by omega⟩
theorem Hs{be bl:Bool}{Q1:A3->Prop}{Q:Nat->A3->Prop}{x:Option Addr}(hT:∀w1,AS w.heap.size w w1->A1 AI 198 #[.pointer (some ⟨D,0,none⟩),.slice fa fl fc] w1 fun e w'=>e=.returned (.tuple #[plV (.slice qa ql qc) b key i,.int .i64 0])/\AS w1.heap.size w1 w')(hE:∀w1,AS w.heap.size w w1->A1 AI 202 #[.slice fa fl fc,.slice pa pl pc] w1 fun e w'=>e=.returned (.bool be)/\AS w1.heap.size w1 w')(hS:be=true -> ∀w1,AS w.heap.size w w1->Q 0 w1)(hL:be=false -> ∀w1,AS w.heap.size w w1->A1 AI 203 #[.slice pa pl pc,.slice fa fl fc] w1 fun e w'=>e=.returned (.bool bl)/\AS w1.heap.size w1 w')(qf:be=false->bl=true -> ∀w1,AS w.heap.size w w1->Q 13 w1)(hG:be=false->bl=false -> ∀w1,AS w.heap.size w w1->A1 AI 159 #[plV (.slice qa ql qc) b key i] w1 fun e w'=>e=.returned (.pointer x)/\AS w1.heap.size w1 w')(hR:be=false->bl=false -> ∀w1,AS w.heap.size w w1->OpB w1 w.heap.size k pa pl pc fa fl fc y->A1 AI 199 #[.pointer (some ⟨D,0,none⟩),plV (.slice qa ql qc) b key i] w1 fun e w'=>e=.returned (.tuple #[])/\OpB w' w.heap.size k pa pl pc fa fl fc y/\Hid (Q1 w'))(hA:∀w1,Q1 w1->A1 AI 197 #[.pointer (some ⟨D,0,none⟩),.slice pa pl pc,.pointer x] w1 fun e w'=>∃c:Nat,e=.returned (.int .i64 c)/\Hid (Q c w')):
  A1 AI 154 #[.pointer (some ⟨D,0,none⟩),opV k pa pl pc fa fl fc y] w fun e w'=>∃c:Nat,e=.returned (.int .i64 c)/\Q c w':=by
 have HT:=Ab hT;have HE:=Ab hE;have HL:=Ab hL;have HS:=Ab hS;have qi:=Ab qf;have HG:=Ab hG;have HR:=Ab hR;have HA:=Ab hA;have hob:OpB (w.alloc (.cells #[.int .i64 k,.slice pa pl pc,.slice fa fl fc,.pointer y] 178)) w.heap.size k pa pl pc fa fl fc y:=A2 w _;have qg:=(A5 w.heap.size w).alloc (AT _) (.cells #[.int .i64 k,.slice pa pl pc,.slice fa fl fc,.pointer y] 178);have qb:=Ab qg;have q5:=Ab hob;have b2:=hob.c2;clear hT hE hL hS qf hG hR hA hob qg
 go_enter func154,ntmps154
 go_wp2_with (fail);generalize w.alloc (.cells #[.int .i64 k,.slice pa pl pc,.slice fa fl fc,.pointer y] 178)=wa at *
 go_wp2_with (fail);refine (Aa HT wa (Aa qb)).mono ?_
 rintro e w2 ⟨rfl,hb⟩;obtain⟨w3,q9⟩:∃w3,w3=w2.alloc (.cells #[.slice qa ql qc,.pointer (some ⟨b,0,none⟩),.string ⟨key.toArray⟩,.int .i64 i] 185):=⟨_,rfl⟩
 have hM:=Js.mk' (qa:=qa) (ql:=ql) (qc:=qc) (b:=b) (key:=key) (i:=i) (Aa qb) (Aa q5) hb q9;have HM:=Ab hM;have qe:=Ab q9;have c1:=hM.op.c1;have c2:=hM.op.c2;have k1:∀o,(w2.alloc o).cell? ⟨w.heap.size,1,none⟩=some (.slice pa pl pc):=fun o=>(CR (w:=w2) (D1 w2 o _ ((Aa q5).low hb).lt)).trans ((Aa q5).low hb).c1;have k2:∀o,(w2.alloc o).cell? ⟨w.heap.size,2,none⟩=some (.slice fa fl fc):=fun o=>(CR (w:=w2) (D1 w2 o _ ((Aa q5).low hb).lt)).trans ((Aa q5).low hb).c2;clear hb b2 hM q9
 go_wp2_with (fail);rw[<- Aa qe]
 clear qe k1 k2;refine (Aa HE w3 (Aa HM).bel).mono ?_;rintro e w4 ⟨rfl,hb⟩;have q6:=(Aa HM).low hb;have q7:=Ab q6;clear hb c1 c2;have c1:=q6.op.c1;have c2:=q6.op.c2;clear q6;cases be with
 | true=>
  go_wp2_with (fail)
  go_ret;exact⟨0,rfl,Aa HS trivial _ (Aa q7).bel⟩
 | false=>
 go_wp2_with (fail);refine (Aa HL trivial w4 (Aa q7).bel).mono ?_
 rintro e w5 ⟨rfl,hb⟩;have q0:=(Aa q7).low hb;have q8:=Ab q0;clear hb c1 c2;have e0:=q0.pb.c0;have e1:=q0.pb.c1;have e2:=q0.pb.c2;have e3:=q0.pb.c3;clear q0;cases bl with
 | true=>
  go_wp2_with (fail)
  go_ret;exact⟨13,rfl,Aa qi trivial trivial _ (Aa q8).bel⟩
 | false=>
 go_wp2_with (fail);refine (Aa HG trivial trivial w5 (Aa q8).bel).mono ?_
 rintro e w6 ⟨rfl,hb⟩;have q4:=(Aa q8).low hb;have qd:=Ab q4;clear hb e0 e1 e2 e3;have e0:=q4.pb.c0;have e1:=q4.pb.c1;have e2:=q4.pb.c2;have e3:=q4.pb.c3;clear q4
 go_wp2_with (fail);refine (Aa HR trivial trivial w6 (Aa qd).bel (Aa qd).op).mono ?_
 rintro e w7 ⟨rfl,qh,hq⟩;have c1:=qh.c1;clear qh e0 e1 e2 e3
 go_wp2_with (fail);refine (Aa HA w7 (Aa hq)).mono ?_
 rintro e w8 ⟨c,rfl,qj⟩
 go_wp2_with (fail)
 go_ret;exact⟨c,rfl,Aa qj⟩
theorem PW(hT:∀w1,AS w.heap.size w w1->A1 AI 198 #[.pointer (some ⟨D,0,none⟩),.slice fa fl fc] w1 fun e w'=>e=.returned (.tuple #[plV (.slice qa ql qc) b key i,.int .i64 0])/\AS w1.heap.size w1 w')(hE:∀w1,AS w.heap.size w w1->A1 AI 202 #[.slice fa fl fc,.slice pa pl pc] w1 fun e w'=>e=.returned (.bool true)/\AS w1.heap.size w1 w'):
  A1 AI 154 #[.pointer (some ⟨D,0,none⟩),opV k pa pl pc fa fl fc y] w fun e w'=>e=.returned (.int .i64 0)/\AS w.heap.size w w':=
 (Hs (be:=true) (bl:=true) (x:=none) (Q1:=fun _=>False) (Q:=fun c w'=>c=0/\AS w.heap.size w w') hT hE (fun _ _ h=>⟨rfl,h⟩) (fun h=>by cases h) (fun h=>by cases h) (fun h=>by cases h) (fun h=>by cases h) (fun _ h=>h.elim)).mono fun e w' ⟨c,h1,h2,h3⟩=>by subst h2;exact⟨h1,h3⟩
theorem O7(hT:∀w1,AS w.heap.size w w1->A1 AI 198 #[.pointer (some ⟨D,0,none⟩),.slice fa fl fc] w1 fun e w'=>e=.returned (.tuple #[plV (.slice qa ql qc) b key i,.int .i64 0])/\AS w1.heap.size w1 w')(hE:∀w1,AS w.heap.size w w1->A1 AI 202 #[.slice fa fl fc,.slice pa pl pc] w1 fun e w'=>e=.returned (.bool false)/\AS w1.heap.size w1 w')(hL:∀w1,AS w.heap.size w w1->A1 AI 203 #[.slice pa pl pc,.slice fa fl fc] w1 fun e w'=>e=.returned (.bool true)/\AS w1.heap.size w1 w'):
  A1 AI 154 #[.pointer (some ⟨D,0,none⟩),opV k pa pl pc fa fl fc y] w fun e w'=>e=.returned (.int .i64 13)/\AS w.heap.size w w':=
 (Hs (be:=false) (bl:=true) (x:=none) (Q1:=fun _=>False) (Q:=fun c w'=>c=13/\AS w.heap.size w w') hT hE (fun h=>by cases h) (fun _=>hL) (fun _ _ _ h=>⟨rfl,h⟩) (fun _ h=>by cases h) (fun _ h=>by cases h) (fun _ h=>h.elim)).mono fun e w' ⟨c,h1,h2,h3⟩=>by subst h2;exact⟨h1,h3⟩
theorem Sj{Q1:A3->Prop}{Q:Nat->A3->Prop}{x:Option Addr}(hT:∀w1,AS w.heap.size w w1->A1 AI 198 #[.pointer (some ⟨D,0,none⟩),.slice fa fl fc] w1 fun e w'=>e=.returned (.tuple #[plV (.slice qa ql qc) b key i,.int .i64 0])/\AS w1.heap.size w1 w')(hE:∀w1,AS w.heap.size w w1->A1 AI 202 #[.slice fa fl fc,.slice pa pl pc] w1 fun e w'=>e=.returned (.bool false)/\AS w1.heap.size w1 w')(hL:∀w1,AS w.heap.size w w1->A1 AI 203 #[.slice pa pl pc,.slice fa fl fc] w1 fun e w'=>e=.returned (.bool false)/\AS w1.heap.size w1 w')(hG:∀w1,AS w.heap.size w w1->A1 AI 159 #[plV (.slice qa ql qc) b key i] w1 fun e w'=>e=.returned (.pointer x)/\AS w1.heap.size w1 w')(hR:∀w1,AS w.heap.size w w1->OpB w1 w.heap.size k pa pl pc fa fl fc y->A1 AI 199 #[.pointer (some ⟨D,0,none⟩),plV (.slice qa ql qc) b key i] w1 fun e w'=>e=.returned (.tuple #[])/\OpB w' w.heap.size k pa pl pc fa fl fc y/\Hid (Q1 w'))(hA:∀w1,Q1 w1->A1 AI 197 #[.pointer (some ⟨D,0,none⟩),.slice pa pl pc,.pointer x] w1 fun e w'=>∃c:Nat,e=.returned (.int .i64 c)/\Hid (Q c w')):
  A1 AI 154 #[.pointer (some ⟨D,0,none⟩),opV k pa pl pc fa fl fc y] w fun e w'=>∃c:Nat,e=.returned (.int .i64 c)/\Q c w':=
 Hs (be:=false) (bl:=false) hT hE (fun h=>by cases h) (fun _=>hL) (fun _ h=>by cases h) (fun _ _=>hG) (fun _ _=>hR) hA
theorem Sk(hc:c≠0)(hW:∀w1,AS w.heap.size w w1->A1 AI 56 #[.pointer (some ⟨D,0,none⟩)] w1 fun x w'=>x=.returned (.pointer wp)/\AS w1.heap.size w1 w')(hF:∀w1,AS w.heap.size w w1->A1 AI 81 #[.slice fa fl fc,.pointer wp] w1 fun e w'=>e=.returned (.tuple #[.pointer none,.int .i64 c])/\AS w1.heap.size w1 w'):
  A1 AI 155 #[.pointer (some ⟨D,0,none⟩),opV k pa pl pc fa fl fc y] w fun e w'=>e=.returned (.int .i64 c)/\AS w.heap.size w w':=by
 have HW:=Ab hW;have HF:=Ab hF;have hob:OpB (w.alloc (.cells #[.int .i64 k,.slice pa pl pc,.slice fa fl fc,.pointer y] 178)) w.heap.size k pa pl pc fa fl fc y:=A2 w _;have q5:=(A5 w.heap.size w).alloc (AT _) (.cells #[.int .i64 k,.slice pa pl pc,.slice fa fl fc,.pointer y] 178);have q8:=hob.lt;have q0:=Ab q5;have q7:=Ab hob;have hs:=q5.size;have e2:((c:Int) != 0)=true:=by rw[bne_iff_ne];omega
 have e3:((c:Int)==0)=false:=by rw[beq_eq_false_iff_ne];omega
 have b2:=hob.c2;clear hW hF hob q5 hc
 go_enter func155,ntmps155
 go_wp2_with (fail);generalize w.alloc (.cells #[.int .i64 k,.slice pa pl pc,.slice fa fl fc,.pointer y] 178)=wa at *
 go_region_with (first
  | (go_at_call 56;refine (Aa HW _ ?_).mono ?_;exact⟨(Aa q0).os,(Aa q0).tape,(Aa q0).output,(Aa q0).size,(Aa q0).block⟩;rintro x w2 ⟨rfl,hb2⟩;replace hb2:AS wa.heap.size wa w2:=⟨hb2.os,hb2.tape,hb2.output,hb2.size,hb2.block⟩;have d2:=((Aa q7).low hb2).c2;have q4:=Ab hb2;clear hb2)
  | (go_at_call 81;refine (Aa HF _ ?_).mono ?_;exact (Aa q0).trans (((Aa q4).mono (Aa q0).size).trans ⟨rfl,rfl,rfl,AT _,fun _ _=>rfl⟩);rintro e w3 ⟨rfl,hb3⟩;replace hb3:AS w2.heap.size w2 w3:=⟨hb3.os,hb3.tape,hb3.output,hb3.size,hb3.block⟩;have q6:=Ab hb3;clear hb3))
 all_goals (
  go_wp2_with (fail)
  go_ret;exact⟨rfl,(Aa q0).trans (((Aa q4).trans ((Aa q6).mono (Aa q4).size)).mono (Aa q0).size)⟩)
theorem UR{Q:Nat->A3->Prop}{x:Option Addr}(hW:∀w1,AS w.heap.size w w1->A1 AI 56 #[.pointer (some ⟨D,0,none⟩)] w1 fun x w'=>x=.returned (.pointer wp)/\AS w1.heap.size w1 w')(hF:∀w1,AS w.heap.size w w1->A1 AI 81 #[.slice fa fl fc,.pointer wp] w1 fun e w'=>e=.returned (.tuple #[.pointer x,.int .i64 0])/\AS w1.heap.size w1 w')(hA:∀w1,AS w.heap.size w w1->A1 AI 197 #[.pointer (some ⟨D,0,none⟩),.slice pa pl pc,.pointer x] w1 fun e w'=>∃c:Nat,e=.returned (.int .i64 c)/\Hid (Q c w')):
  A1 AI 155 #[.pointer (some ⟨D,0,none⟩),opV k pa pl pc fa fl fc y] w fun e w'=>∃c:Nat,e=.returned (.int .i64 c)/\Q c w':=by
 have HW:=Ab hW;have HF:=Ab hF;have HA:=Ab hA;have hob:OpB (w.alloc (.cells #[.int .i64 k,.slice pa pl pc,.slice fa fl fc,.pointer y] 178)) w.heap.size k pa pl pc fa fl fc y:=A2 w _;have q7:=(A5 w.heap.size w).alloc (AT _) (.cells #[.int .i64 k,.slice pa pl pc,.slice fa fl fc,.pointer y] 178);have qd:=hob.lt;have q0:=Ab q7;have q9:=Ab hob;have hs:=q7.size;have b2:=hob.c2;clear hW hF hA hob q7
 go_enter func155,ntmps155
 go_wp2_with (fail);generalize w.alloc (.cells #[.int .i64 k,.slice pa pl pc,.slice fa fl fc,.pointer y] 178)=wa at *
 go_region_with (first
  | (go_at_call 56;refine (Aa HW _ ?_).mono ?_;exact⟨(Aa q0).os,(Aa q0).tape,(Aa q0).output,(Aa q0).size,(Aa q0).block⟩;rintro x w2 ⟨rfl,hb2⟩;replace hb2:AS wa.heap.size wa w2:=⟨hb2.os,hb2.tape,hb2.output,hb2.size,hb2.block⟩;have d2:=((Aa q9).low hb2).c2;have q6:=Ab hb2;clear hb2)
  | (go_at_call 81;refine (Aa HF _ ?_).mono ?_;exact (Aa q0).trans (((Aa q6).mono (Aa q0).size).trans ⟨rfl,rfl,rfl,AT _,fun _ _=>rfl⟩);rintro e w3 ⟨rfl,hb3⟩;replace hb3:AS w2.heap.size w2 w3:=⟨hb3.os,hb3.tape,hb3.output,hb3.size,hb3.block⟩;have q8:=Ab hb3;clear hb3))
 all_goals (
  have q5:=((Aa q9).low (Aa q6)).low (Aa q8);have c1:=q5.c1;have q4:=Ab ((Aa q0).trans (((Aa q6).trans ((Aa q8).mono (Aa q6).size)).mono (Aa q0).size));clear q5
  try clear d2
  clear b2
  go_wp2_with (fail);refine (Aa HA _ ?_).mono ?_
  ·exact⟨(Aa q4).os,(Aa q4).tape,(Aa q4).output,(Aa q4).size,(Aa q4).block⟩
  ·rintro e w8 ⟨c,rfl,qb⟩
   go_wp2_with (fail)
   go_ret;exact⟨c,rfl,Aa qb⟩)
theorem Sf(hc:c≠0)(hW:∀w1,AS w.heap.size w w1->A1 AI 56 #[.pointer (some ⟨D,0,none⟩)] w1 fun x w'=>x=.returned (.pointer wp)/\AS w1.heap.size w1 w')(hF:∀w1,AS w.heap.size w w1->A1 AI 81 #[.slice pa pl pc,.pointer wp] w1 fun e w'=>e=.returned (.tuple #[.pointer none,.int .i64 c])/\AS w1.heap.size w1 w'):
  A1 AI 156 #[.pointer (some ⟨D,0,none⟩),opV k pa pl pc fa fl fc y] w fun e w'=>e=.returned (.int .i64 c)/\AS w.heap.size w w':=by
 have HW:=Ab hW;have HF:=Ab hF;have hob:OpB (w.alloc (.cells #[.int .i64 k,.slice pa pl pc,.slice fa fl fc,.pointer y] 178)) w.heap.size k pa pl pc fa fl fc y:=A2 w _;have q5:=(A5 w.heap.size w).alloc (AT _) (.cells #[.int .i64 k,.slice pa pl pc,.slice fa fl fc,.pointer y] 178);have q8:=hob.lt;have q0:=Ab q5;have q7:=Ab hob;have hs:=q5.size;have e2:((c:Int) != 0)=true:=by rw[bne_iff_ne];omega
 have e3:((c:Int)==0)=false:=by rw[beq_eq_false_iff_ne];omega
 have b1:=hob.c1;clear hW hF hob q5 hc
 go_enter func156,ntmps156
 go_wp2_with (fail);generalize w.alloc (.cells #[.int .i64 k,.slice pa pl pc,.slice fa fl fc,.pointer y] 178)=wa at *
 go_region_with (first
  | (go_at_call 56;refine (Aa HW _ ?_).mono ?_;exact⟨(Aa q0).os,(Aa q0).tape,(Aa q0).output,(Aa q0).size,(Aa q0).block⟩;rintro x w2 ⟨rfl,hb2⟩;replace hb2:AS wa.heap.size wa w2:=⟨hb2.os,hb2.tape,hb2.output,hb2.size,hb2.block⟩;have d1:=((Aa q7).low hb2).c1;have q4:=Ab hb2;clear hb2)
  | (go_at_call 81;refine (Aa HF _ ?_).mono ?_;exact (Aa q0).trans (((Aa q4).mono (Aa q0).size).trans ⟨rfl,rfl,rfl,AT _,fun _ _=>rfl⟩);rintro e w3 ⟨rfl,hb3⟩;replace hb3:AS w2.heap.size w2 w3:=⟨hb3.os,hb3.tape,hb3.output,hb3.size,hb3.block⟩;have q6:=Ab hb3;clear hb3))
 all_goals (
  go_wp2_with (fail)
  go_ret;exact⟨rfl,(Aa q0).trans (((Aa q4).trans ((Aa q6).mono (Aa q4).size)).mono (Aa q0).size)⟩)
theorem UQ{x:Option Addr}{bo:Bool}(hW:∀w1,AS w.heap.size w w1->A1 AI 56 #[.pointer (some ⟨D,0,none⟩)] w1 fun x w'=>x=.returned (.pointer wp)/\AS w1.heap.size w1 w')(hF:∀w1,AS w.heap.size w w1->A1 AI 81 #[.slice pa pl pc,.pointer wp] w1 fun e w'=>e=.returned (.tuple #[.pointer x,.int .i64 0])/\AS w1.heap.size w1 w')(hS:∀w1,AS w.heap.size w w1->A1 AI 82 #[.pointer x,.pointer y] w1 fun e w'=>e=.returned (.bool bo)/\AS w1.heap.size w1 w'):
  A1 AI 156 #[.pointer (some ⟨D,0,none⟩),opV k pa pl pc fa fl fc y] w fun e w'=>e=.returned (.int .i64 (if bo=true then 0 else 14))/\AS w.heap.size w w':=by
 have HW:=Ab hW;have HF:=Ab hF;have HS:=Ab hS;have hob:OpB (w.alloc (.cells #[.int .i64 k,.slice pa pl pc,.slice fa fl fc,.pointer y] 178)) w.heap.size k pa pl pc fa fl fc y:=A2 w _;have q8:=(A5 w.heap.size w).alloc (AT _) (.cells #[.int .i64 k,.slice pa pl pc,.slice fa fl fc,.pointer y] 178);have qe:=hob.lt;have q0:=Ab q8;have qb:=Ab hob;have hs:=q8.size;have b1:=hob.c1;clear hW hF hS hob q8
 go_enter func156,ntmps156
 go_wp2_with (fail);generalize w.alloc (.cells #[.int .i64 k,.slice pa pl pc,.slice fa fl fc,.pointer y] 178)=wa at *
 go_region_with (first
  | (go_at_call 56;refine (Aa HW _ ?_).mono ?_;exact⟨(Aa q0).os,(Aa q0).tape,(Aa q0).output,(Aa q0).size,(Aa q0).block⟩;rintro x w2 ⟨rfl,hb2⟩;replace hb2:AS wa.heap.size wa w2:=⟨hb2.os,hb2.tape,hb2.output,hb2.size,hb2.block⟩;have d1:=((Aa qb).low hb2).c1;have q7:=Ab hb2;clear hb2)
  | (go_at_call 81;refine (Aa HF _ ?_).mono ?_;exact (Aa q0).trans (((Aa q7).mono (Aa q0).size).trans ⟨rfl,rfl,rfl,AT _,fun _ _=>rfl⟩);rintro e w3 ⟨rfl,hb3⟩;replace hb3:AS w2.heap.size w2 w3:=⟨hb3.os,hb3.tape,hb3.output,hb3.size,hb3.block⟩;have q9:=Ab hb3;clear hb3))
 all_goals (
  have q6:=((Aa qb).low (Aa q7)).low (Aa q9);have c3:=q6.c3;have q4:=Ab ((Aa q0).trans (((Aa q7).trans ((Aa q9).mono (Aa q7).size)).mono (Aa q0).size));clear q6
  try clear d1
  clear b1
  go_wp2_with (fail);refine (Aa HS _ ?_).mono ?_
  ·exact⟨(Aa q4).os,(Aa q4).tape,(Aa q4).output,(Aa q4).size,(Aa q4).block⟩
  ·rintro e w8 ⟨rfl,q5⟩;have qd:=Ab ((Aa q4).trans ((show AS w3.heap.size w3 w8 from⟨q5.os,q5.tape,q5.output,q5.size,q5.block⟩).mono (Aa q4).size));clear q5;cases bo;all_goals (
    go_wp2_with (fail)
    go_ret;exact⟨rfl,Aa qd⟩))
end
theorem Tf{i:Nat}{w:A3}{u:CD}{c:dS}{d x lv:Int}(hu:Ad (f+1) w u m)(hg:dY d x (f+1) lv (dV (f+1) m))(hp:gH (dV (f+1) m) t=some i)(hk:(AJ m)[i]? = some c):AV m ((eZ t).getD 0) t c:=by
 obtain⟨b,g,xx,rfl,rfl,h⟩:=hu;rcases h with⟨k,_,_,rfl,_⟩|⟨n,_,rfl,_⟩|⟨s,_,rfl,_⟩|⟨al,sl,ps,rfl,h,ho,hs,ha⟩|⟨es,n,D,rfl,h,ho,q7⟩
 ·rw[E8] at hk;cases hk
 ·rw[FS] at hk;cases hk
 ·rw[FR] at hk;cases hk
 ·rw[BW] at hk;rw[Bq] at hp;unfold gH Af at hp;simp only at hp;cases hi:eZ t with
  | none=>rw[hi] at hp;cases hp
  | some j=>
   rw[hi] at hp;simp only at hp;split at hp
   ·injection hp with hp;subst hp;exact C2 ⟨b,g,al,rfl,hk⟩
   ·cases hp
 ·rw[BH] at hk;rw[AX] at hp hg;have q0:Az (es.map fun p=>(p.1,dV f p.2)):=by
   obtain⟨_,hh⟩:=hg;rcases hh with⟨_,_,hh⟩|⟨_,_,hh⟩|⟨_,_,_,_,hh⟩|⟨_,_,hh⟩|⟨es',h1,h2,hh⟩
   ·cases hh
   ·cases hh
   ·cases hh
   ·cases hh
   ·injection hh with hh;subst hh;exact⟨h1,by grind⟩
  have q4:Az es:=by
   refine⟨?_,fun p hp=>q0.2 (p.1,dV f p.2) (Dt.2 ⟨p,hp,rfl⟩)⟩;have:=q0.1
   grind
  unfold gH Ap at hp;simp only at hp;rw[List.findIdx?_map] at hp;obtain⟨hi,h1,_⟩:=List.findIdx?_eq_some_iff_getElem.1 hp;rw[List.getElem?_map,List.getElem?_eq_getElem hi] at hk;injection hk with hk;obtain⟨s,hs⟩:=q4.2 _ (D2 hi);have q5:(es[i].1).sameKey (.string t)=true:=h1;rw[hs] at q5;have q6:=Da.1 q5;subst q6;refine D0 ⟨b,g,es,rfl,?_,q4⟩;have:=D2 hi;rw[show es[i]=(C1 s,c) from Prod.ext hs hk] at this;exact this
section
variable{w:A3}{D R:Nat}{wp:Option Addr}{jn iv:CD}{ch:Bool}{Tb T a:dS}{Mb M:Nat->Prop}{wb:A3}{v xv:To}{js:List dX}{y:Option Addr}{F:Nat->Prop}{d x:Int}{B:Nat}
theorem Iq{c:Nat}{pa:Option Addr}{pl pc:Nat}(h:JS w D R wp jn iv ch Tb Mb wb T a v M js)(hT:Ai w)(hp:Aw w (GA (top+1) Tb wb M) (.slice pa pl pc) p)(q8:fZ p)(hf:Ah v p=.error c):
  ∀w1,AS w.heap.size w w1->A1 AI 198 #[.pointer (some ⟨D,0,none⟩),.slice pa pl pc] w1 fun e w'=>e=.returned (.tuple #[plZ,.int .i64 c])/\AS w1.heap.size w1 w':=by
 intro w1 hb1;have hne:p≠[]:=by rintro rfl;cases hf
 obtain⟨s,t,rfl⟩:∃s t,p=s++[t]:=⟨p.dropLast,p.getLast hne,(A4 hne).symm⟩
 have p1:=q8.len;have p2:=q8.tok;have qb:∀u∈s,u.length<=1048576:=fun u hu=>by have:=p2 u (by simp[hu]);omega
 have qe:t.length<=1048576:=by have:=p2 t (by simp);omega
 have hsl:s.length<=1048576:=by simp at p1;omega
 rcases hp with⟨e,_⟩|⟨g,o,cap,e,h1,h2,h3,h4⟩
 ·exact absurd e hne
 ·injection e with ea eb ec;subst ea;subst eb;subst ec;have q5:(s++[t]).length=s.length+1:=by simp
  rw[q5] at h1 |-;have q0:=Cj hf;have q9:∀w2,AS w1.heap.size w1 w2->C7 w2 g o (s++[t]):=fun w2 hb=>(h4.move (hb1.block g h4.1)).move (hb.block g (Dp h4.1 hb1.size));have q7:=h.bel hb1;have q4:=hT.bel hb1;rw[BQ] at hf;cases hs:Ah v s with
  | error c'=>
   rw[hs] at hf;injection hf with hf;subst hf;exact Sr q0 fun w2 hb=>Ky (q7.bel hb) (q4.bel hb).rng (q9 w2 hb) rfl h1 h2 qb hsl hs
  | ok nv=>
   rw[hs] at hf;have qd:=h.t.str;have hf2:=hs;rw[<- qd] at hf2;obtain⟨f,q,m,u,e1,e2,e3,e4,e5⟩:=CG h.t.sub hf2;rw[qd] at e5;obtain⟨ub,rfl,_⟩:=e3.ptr;have q6:=e3.bel hb1;refine Su (y:=none) q0 (fun w2 hb=>IA (q7.bel hb) (q4.bel hb).rng (q9 w2 hb) rfl h1 h2 qb hsl hs e2 (q6.bel hb) e5) fun w2 hb=>(JV qe (q4.bel hb).rng (q6.bel hb)).mono ?_;rintro e w' ⟨hk,hb2⟩;unfold DT at hk;rw[e4] at hk;simp only at hf;rw[hf] at hk;exact⟨hk,hb2⟩
theorem JL{ev:To}{pa:Option Addr}{pl pc:Nat}(h:JS w D R wp jn iv ch Tb Mb wb T a v M js)(hT:Ai w)(hv:eG d x B v)(hB:B<=900000000)(hp:Aw w (GA (top+1) Tb wb M) (.slice pa pl pc) p)(qb:fZ p)(hf:Ah v p=.ok ev):
  ∃f q m c i key qa ql qc,f+1+List.length q=top+1/\eD q T=some m/\AV m i key c/\dV f c=ev/\1000<=f/\f<=top/\B7 m key/\Aw w (GA (top+1) Tb wb M) (.slice qa ql qc) p /\
   (p≠[] -> ∃g a1,eI q (B9 i key m) T=dW R g (.slice [a1] [])/\CU v p=.ok (dV top a1,[(0,p,ev)])) /\
   (∀xa,∃g a1,eI q (BM i key xa m) T=dW R g (.slice [a1] [])/\EO v p (dV f xa)=.ok (dV top a1,[(2,p,ev)])) /\
   ∀w1,AS w.heap.size w w1->A1 AI 198 #[.pointer (some ⟨D,0,none⟩),.slice pa pl pc] w1 fun e w'=>e=.returned (.tuple #[plV (.slice qa ql qc) (eK m) key i,.int .i64 0])/\AS w1.heap.size w1 w':=by
 obtain⟨gT,eT⟩:=h.t.one;have q8:=h.t.str;by_cases hne:p=[]
 ·subst hne;injection hf with hf;subst hf;have qe:pl=0:=by
   rcases hp with⟨_,a0,c0,e,_⟩|⟨g,o,cap,e,_⟩
   ·injection e
   ·injection e
  subst qe;refine⟨top,[],T,a,0,[],none,0,0,rfl,rfl,C2 ⟨R,gT,[a],eT,rfl⟩,q8,by have:=E1;omega,AT _,by rw[eT];exact⟨by rw[BW];simp,by simp⟩,C2 ⟨rfl,none,0,rfl,by simp⟩,fun hh=>absurd rfl hh,fun xa=>⟨gT,xa,by rw[eT];rfl,rfl⟩,fun w1 hb1=>?_⟩;have q0:eK T=R:=by rw[eT];rfl
  rw[q0];exact Ss (h.bel hb1).t.db
 ·obtain⟨s,t,rfl⟩:∃s t,p=s++[t]:=⟨p.dropLast,p.getLast hne,(A4 hne).symm⟩
  have p1:=qb.len;have p2:=qb.tok;have qg:∀u∈s,u.length<=1048576:=fun u hu=>by have:=p2 u (by simp[hu]);omega
  have q7:t.length<=1048576:=by have:=p2 t (by simp);omega
  have hsl:s.length<=1048576:=by simp at p1;omega
  rw[BQ] at hf;cases hs:Ah v s with
  | error c'=>rw[hs] at hf;cases hf
  | ok nv=>
   rw[hs] at hf;simp only at hf;have hf2:=hs;rw[<- q8] at hf2;obtain⟨f,q,m,u,e1,e2,e3,e4,e5⟩:=CG h.t.sub hf2;obtain⟨n1,n2,n3,n4,n5,n6,n7⟩:=h.node hv e1 e2 e3;rw[q8] at e5;rw[<- e4] at hf;obtain⟨i0,c,xk,k1,k2,k3,k4⟩:=KM e3 hf;have q6:=Tf e3 n5 k1 k2;refine⟨f,0::q,m,c,(eZ t).getD 0,t,pa,pl,pc,n1,n2,q6,k3,n3,by omega,⟨by omega,q7⟩,hp,fun _=>?_,fun xa=>?_,fun w1 hb1=>?_⟩
   ·obtain⟨r1,r2⟩:=h.value (m':=B9 ((eZ t).getD 0) t m) eT e1 e2;rw[Yf q6.box] at r2;refine⟨gT,_,r1,?_⟩;unfold CU;rw[DN];simp only[hs];rw[<- e4,hf];simp only;rw[r2,Dh e5]
   ·obtain⟨r1,r2⟩:=h.value (m':=BM ((eZ t).getD 0) t xa m) eT e1 e2;rw[Qg q6.box] at r2;refine⟨gT,_,r1,?_⟩;unfold EO;rw[DN];simp only[hs];rw[<- e4,hf];simp only;rw[r2,Dh e5]
   ·rcases hp with⟨e,_⟩|⟨g,o,cap,e,h1,h2,h3,h4⟩
    ·exact absurd e hne
    ·injection e with ea eb ec;subst ea;subst eb;subst ec;have q5:(s++[t]).length=s.length+1:=by simp
     rw[q5] at h1 |-;have qf:∀w2,AS w1.heap.size w1 w2->C7 w2 g o (s++[t]):=fun w2 hb=>(h4.move (hb1.block g h4.1)).move (hb.block g (Dp h4.1 hb1.size));have qd:=h.bel hb1;have q4:=hT.bel hb1;obtain⟨ub,rfl,_⟩:=e3.ptr;have q0:eK m=ub:=by
      obtain⟨b',g',x',rfl,eu,_⟩:=e3;injection eu with eu;injection eu with eu;injection eu with eu _ _;exact eu.symm
     rw[q0];have q9:=e3.bel hb1;refine U3 (b:=ub) (io:=eZ t) (fun w2 hb=>IA (qd.bel hb) (q4.bel hb).rng (qf w2 hb) rfl h1 h2 qg hsl hs e2 (q9.bel hb) e5) (fun w2 hb=>(JV q7 (q4.bel hb).rng (q9.bel hb)).mono ?_) (fun w2 hb=>Gs t w2 q7 (q4.bel hb).rng);rintro e w' ⟨hk,hb2⟩;unfold DT at hk;rw[hf] at hk;obtain⟨i',c',x',_,_,_,rfl,qh⟩:=hk;obtain⟨xb,rfl,_⟩:=qh.ptr;exact⟨⟨_,rfl⟩,hb2⟩
theorem Xc{c:Nat}(hne:p≠[])(hf:Ah v p=.error c):CU v p=.error c:=by
 obtain⟨s,t,rfl⟩:∃s t,p=s++[t]:=⟨p.dropLast,p.getLast hne,(A4 hne).symm⟩
 rw[BQ] at hf;unfold CU;rw[DN];cases hs:Ah v s with
 | error c'=>
  rw[hs] at hf;injection hf with hf;subst hf;simp only;rw[hs]
 | ok nv=>rw[hs] at hf;simp only at hf |-; rw[hs];simp only;rw[hf]
theorem W9{c:Nat}(hf:Ah v p=.error c):EO v p xv=.error c:=by
 have hne:p≠[]:=by rintro rfl;cases hf
 obtain⟨s,t,rfl⟩:∃s t,p=s++[t]:=⟨p.dropLast,p.getLast hne,(A4 hne).symm⟩
 rw[BQ] at hf;unfold EO;rw[DN];cases hs:Ah v s with
 | error c'=>
  rw[hs] at hf;injection hf with hf;subst hf;simp only;rw[hs]
 | ok nv=>rw[hs] at hf;simp only at hf |-; rw[hs];simp only;rw[hf]
theorem Me{p:List Nat}{i:Nat}{c:dS}{key:By}{pa:Option Addr}{pl pc:Nat}(hL:f+1+p.length=L)(hJ:Bv L w D rv jn iv ch Tb Mb wb T M js)(hs:eD p T=some m)(hf:AV m i key c)(hr:B7 m key)(hl:js.length<=1000000000)(hp:Aw w (GA L Tb wb M) (.slice pa pl pc) path)(q0:f<=top):
  A1 AI 199 #[.pointer (some ⟨D,0,none⟩),plV (.slice pa pl pc) (eK m) key i] w fun e w'=>e=.returned (.tuple #[]) /\
   BU L D rv iv ch Tb Mb wb (eI p (B9 i key m) T) M (js++[(0,path,dV f c)]) w w' /\ ∀y,Ad f w y c->Ad f w' y c:=by
 subst hL;exact Kr hJ hs hf hr hl hp q0
theorem Yd{p:List Nat}{i:Nat}{c xa:dS}{key:By}{pa:Option Addr}{pl pc:Nat}(hL:f+1+p.length=L)(hJ:Bv L w D rv jn iv ch Tb Mb wb T M js)(hs:eD p T=some m)(hf:AV m i key c)(hr:B7 m key)(hl:js.length<=1000000000)(hp:Aw w (GA L Tb wb M) (.slice pa pl pc) path)(q0:f<=top)(hx:Ad f w (.pointer px) xa)(q5:(fp f xa).Nodup)(q4:∀k∈fp f xa,¬ M k/\k ∉ fp L T/\k≠D/\jn.ownBlock≠some k/\wb.heap.size<=k):
  A1 AI 200 #[.pointer (some ⟨D,0,none⟩),plV (.slice pa pl pc) (eK m) key i,.pointer px] w fun e w'=>e=.returned (.tuple #[]) /\
   BU L D rv iv ch Tb Mb wb (eI p (BM i key xa m) T) M (js++[(2,path,dV f c)]) w w':=by
 subst hL;exact NR hJ hs hf hr hl hp q0 hx q5 q4
end
end Go.Proofs.YtdpomdelmdofmaaGreatDoor
