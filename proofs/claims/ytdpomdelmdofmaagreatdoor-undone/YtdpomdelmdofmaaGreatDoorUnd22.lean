import Derived.Test.YtdpomdelmdofmaaGreatDoorUnd21
namespace Go.Proofs.YtdpomdelmdofmaaGreatDoor
open Go.Proofs.Tryz
section
open Go.RowKit Go.Maps
def AP(D R:Nat)(iv:Value)(ch:Bool)(Tb:Sp.A)(Mb:Nat->Prop)(wb:World)(M:Nat->Prop)(js:List Sp.Opn)(w:World)(r:Except Nat (Sp.V×List Sp.Opn))(e:Ending)(w':World):Prop:=match r with
 | .ok (v',j)=>e = .returned (.int .i64 0) /\ ∃wp jn T a M',JS w' D R wp jn iv ch Tb Mb wb T a v' M' (js++j)/\JEx M M' w w'
 | .error c=>e = .returned (.int .i64 c) /\ ∃wp jn T a v' M' js',JS w' D R wp jn iv ch Tb Mb wb T a v' M' js'/\JEx M M' w w'
structure Sp.Fit(d x:Int)(B:Nat)(v:Sp.V):Prop where
 gd:Sp.gd d x top 1 v
 dd:d<=500
 sz:Sp.sz top v<=B
theorem Sp.nar_of{d x:Int}:∀ {f:Nat} {lv:Int} {v:Sp.V},Sp.gd d x f lv v->Sp.sz f v<=1000000000000->Sp.nar f v
 | 0,_,_,_,_=>trivial
 | f+1,lv,v,h,hs=>by
  have hk:=Sp.It (f:=f) (v:=v);have hkid:∀i e,(Sp.A9 v)[i]? = some e->Sp.nar f e:=fun i e he=>by
   have h1:=Sp.Kr (e:=.nil) h he;have h2:Sp.sz f (.nil:Sp.V)=0:=by cases f<;>rfl
   exact Sp.nar_of (Sp.Fu h he) (by omega)
  obtain⟨_,h⟩:=h;rcases h with⟨k,_,rfl⟩|⟨s,_,rfl⟩|⟨n,_,_,_,rfl⟩|⟨es,_,rfl⟩|⟨es,_,_,rfl⟩
  ·trivial
  ·trivial
  ·trivial
  ·refine⟨Nat.le_trans hk hs,fun e he=>?_⟩;obtain⟨i,hi,e'⟩:=List.mem_iff_getElem.1 he;exact hkid i e (show es[i]? = some e by rw[List.getElem?_eq_getElem hi,e'])
  ·refine⟨by rw[<- List.length_map (f:=Prod.snd)];exact Nat.le_trans hk hs,fun p hp=>?_⟩;obtain⟨i,hi,e'⟩:=List.mem_iff_getElem.1 hp;exact hkid i p.2 (show (es.map Prod.snd)[i]? = some p.2 by rw[List.getElem?_map,List.getElem?_eq_getElem hi,e'];rfl)
def Sp.PathOk(p:List Sp.By):Prop:=(p.map fun t=>t.length+1).sum<=100000 /\ ∀t∈p,Sp.Ut t
theorem Ih:∀ (p:List Sp.By),p.length<=(p.map fun t=>t.length+1).sum /\ ∀t∈p,t.length<=(p.map fun t=>t.length+1).sum
 | []=>⟨Nat.le_refl _,fun t h=>by cases h⟩
 | a::r=>by
  obtain⟨h1,h2⟩:=Ih r;simp only[List.map_cons,List.sum_cons,List.length_cons];refine⟨by omega,fun t h=>?_⟩;rcases List.mem_cons.1 h with rfl|h
  ·omega
  ·have:=h2 t h;omega
theorem Sp.PathOk.len{p:List Sp.By}(h:Sp.PathOk p):p.length<=100000:=Nat.le_trans (Ih p).1 h.1
theorem Sp.PathOk.tok{p:List Sp.By}(h:Sp.PathOk p):∀t∈p,t.length<=100000:=fun t ht=>Nat.le_trans ((Ih p).2 t ht) h.1
def Frs(w:World)(xv:Sp.V)(x:Option Addr)(w1:World):Prop:=Below w.heap.size w w1/\Tr top w.heap.size w1 (.pointer x) xv
theorem Frs.bel{w w1 w2:World}{xv:Sp.V}{x:Option Addr}(h:Frs w xv x w1)(hb:Below w1.heap.size w1 w2):Frs w xv x w2 :=
 ⟨h.1.trans (hb.mono h.1.size),h.2.move (Nat.le_refl _) fun k _ hk=>hb.block k hk⟩
theorem RT{L f:Nat}{p:List Nat}{w:World}{D i:Nat}{rv jn iv:Value}{ch:Bool}{Tb T m c:Sp.A}{Mb M:Nat->Prop}{wb:World}{js:List Sp.Opn}{key:Sp.By}{pa px:Option Addr}{pl pc:Nat}{path:List Sp.By}(hL:f+1+p.length=L)
  (hJ:Bm L w D rv jn iv ch Tb Mb wb T M js) (hs:Sp.sub p T=some m) (hf:G0 m i key) (hr:Ca m key) (hl:js.length<=1000000000) (hp:AM w (GA L Tb wb M) (.slice pa pl pc) path)
  (hc:Ae f w (.pointer px) c) (hcn:(Sp.fp f c).Nodup) (hcd:∀k∈Sp.fp f c,¬ M k/\k ∉ Sp.fp L T/\k≠D/\jn.ownBlock≠some k/\wb.heap.size<=k) :
  Calls Tryz.prog 205 #[.pointer (some ⟨D,0,none⟩),plV (.slice pa pl pc) (Sp.blk m) key i,.pointer px] w fun e w'=>e = .returned (.tuple #[]) /\
   B1 L D rv iv ch Tb Mb wb (Sp.put p (Sp.BS i key c m) T) M (js++[(1,path,.nil)]) w w':=by
 subst hL;exact Kb hJ hs hf hr hl hp hc hcn hcd
theorem MJ{L f:Nat}{p:List Nat}{w:World}{D i:Nat}{rv jn iv:Value}{ch:Bool}{Tb T m c x:Sp.A}{Mb M:Nat->Prop}{wb:World}{js:List Sp.Opn}{key:Sp.By}{pa px:Option Addr}{pl pc:Nat}{path:List Sp.By}(hL:f+1+p.length=L)
  (hJ:Bm L w D rv jn iv ch Tb Mb wb T M js) (hs:Sp.sub p T=some m) (hf:AV m i key c) (hr:Ca m key) (hl:js.length<=1000000000) (hp:AM w (GA L Tb wb M) (.slice pa pl pc) path) (hft:f<=top) (hx:Ae f w (.pointer px) x) (hxn:(Sp.fp f x).Nodup) (hxd:∀k∈Sp.fp f x,¬ M k/\k ∉ Sp.fp L T/\k≠D/\jn.ownBlock≠some k/\wb.heap.size<=k) :
  Calls Tryz.prog 160 #[.pointer (some ⟨D,0,none⟩),plV (.slice pa pl pc) (Sp.blk m) key i,.pointer px] w fun e w'=>e = .returned (.tuple #[]) /\
   B1 L D rv iv ch Tb Mb wb (Sp.put p (Sp.Bx i key x m) T) M (js++[(2,path,Sp.str f c)]) w w':=by
 subst hL;exact VT hJ hs hf hr hl hp hft hx hxn hxd
theorem OK{L f:Nat}{p:List Nat}{w:World}{D i:Nat}{rv jn iv:Value}{ch:Bool}{Tb T x:Sp.A}{Mb M:Nat->Prop}{wb:World}{js:List Sp.Opn}{key:Sp.By}{pa px:Option Addr}{pl pc:Nat}{path:List Sp.By}{b g:Nat}{es:List (Lit×Sp.A)}(hL:f+1+p.length=L)
  (hJ:Bm L w D rv jn iv ch Tb Mb wb T M js) (hs:Sp.sub p T=some (Sp.nd b g (.map es))) (hf:∀p∈es,p.1≠Lit.string key) (hr:Ca (Sp.nd b g (.map es)) key) (hl:js.length<=1000000000) (hp:AM w (GA L Tb wb M) (.slice pa pl pc) path) (hx:Ae f w (.pointer px) x) (hxn:(Sp.fp f x).Nodup) (hxd:∀k∈Sp.fp f x,¬ M k/\k ∉ Sp.fp L T/\k≠D/\jn.ownBlock≠some k/\wb.heap.size<=k) :
  Calls Tryz.prog 160 #[.pointer (some ⟨D,0,none⟩),plV (.slice pa pl pc) b key i,.pointer px] w fun e w'=>e = .returned (.tuple #[]) /\
   B1 L D rv iv ch Tb Mb wb (Sp.put p (Sp.BS i key x (Sp.nd b g (.map es))) T) M (js++[(1,path,.nil)]) w w':=by
 subst hL;exact Tx hJ hs hf hr hl hp hx hxn hxd
section
variable{w w':World}{D R:Nat}{wp:Option Addr}{jn iv:Value}{ch:Bool}{Tb T a:Sp.A}{Mb M:Nat->Prop}{wb:World}{v:Sp.V}{js:List Sp.Opn}
theorem JS.done{g:Nat}{T1 a1:Sp.A}{v':Sp.V}(h:B1 (top+1) D (.pointer (some ⟨R,0,none⟩)) iv ch Tb Mb wb T1 M js w w')(e:T1=Sp.nd R g (.slice [a1] []))(hv:Sp.str top a1=v') :
  ∃wp jn T a M',JS w' D R wp jn iv ch Tb Mb wb T a v' M' js/\JEx M M' w w':=by
 obtain⟨jn',T',M',q1,q2,q3⟩:=h;rw[e] at q1;obtain⟨wp,a,hj⟩:=JS.of q2 q1;rw[hv] at hj;exact⟨wp,jn',T',a,M',hj,q3⟩
theorem JS.ok{g:Nat}{T1 a1:Sp.A}{v':Sp.V}{j:List Sp.Opn}(h:B1 (top+1) D (.pointer (some ⟨R,0,none⟩)) iv ch Tb Mb wb T1 M (js++j) w w')(e:T1=Sp.nd R g (.slice [a1] []))(hv:Sp.str top a1=v') :
  AP D R iv ch Tb Mb wb M js w (.ok (v',j)) (.returned (.int .i64 0)) w':=⟨rfl,JS.done h e hv⟩
theorem JS.err{c:Nat}(h:JS w D R wp jn iv ch Tb Mb wb T a v M js)(hb:Below w.heap.size w w'):AP D R iv ch Tb Mb wb M js w (.error c) (.returned (.int .i64 c)) w' :=
 ⟨rfl,wp,jn,T,a,v,M,js,h.bel hb,(h.j.bel hb).2⟩
theorem JEx.below{M':Nat->Prop}{w2:World}(h:Below w.heap.size w w')(hM:∀k,M k->k<w.heap.size)(k:JEx M M' w' w2):JEx M M' w w2 :=
 ⟨k.os.trans h.os,k.tape.trans h.tape,k.output.trans h.output,Nat.le_trans h.size k.size,fun j hj=>⟨(k.kept j hj).1,(k.kept j hj).2.trans (h.block j (hM j hj))⟩⟩
theorem AP.below{js:List Sp.Opn}{r:Except Nat (Sp.V×List Sp.Opn)}{e:Ending}{w2:World}(h:Below w.heap.size w w')(hM:∀k,M k->k<w.heap.size)(k:AP D R iv ch Tb Mb wb M js w' r e w2):AP D R iv ch Tb Mb wb M js w r e w2:=by
 cases r with
 | ok vj =>
  obtain⟨rfl,wp,jn,T,a,M',h1,h2⟩:=k;exact⟨rfl,wp,jn,T,a,M',h1,JEx.below h hM h2⟩
 | error c =>
  obtain⟨rfl,wp,jn,T,a,v,M',js',h1,h2⟩:=k;exact⟨rfl,wp,jn,T,a,v,M',js',h1,JEx.below h hM h2⟩
theorem JS.new(h:JS w D R wp jn iv ch Tb Mb wb T a v M js){k:Nat}(hk:w.heap.size<=k):¬ M k/\k ∉ Sp.fp (top+1) T/\k≠D/\jn.ownBlock≠some k/\wb.heap.size<=k :=
 ⟨fun hm=>by have:=(h.j.low k hm).1;omega,fun hm=>by have:=h.j.tr.lt k hm;omega,fun e=>by have:=h.j.dlt;omega,fun e=>by have:=h.j.jlt k e;omega,Nat.le_trans h.j.up.1 hk⟩
theorem JS.node{d x:Int}{B f:Nat}{q:List Nat}{m:Sp.A}{u:Value}(h:JS w D R wp jn iv ch Tb Mb wb T a v M js)(hg:Sp.Fit d x B v)(hq:f+1+q.length=top)(hs:Sp.sub q a=some m)(hu:Ae (f+1) w u m) :
  f+1+(0::q).length=top+1/\Sp.sub (0::q) T=some m/\1000<=f/\(Sp.AL m).length<=B/\Sp.gd d x (f+1) (1+q.length) (Sp.str (f+1) m)/\Sp.sz (f+1) (Sp.str (f+1) m)<=B/\Sp.BC q v=some (Sp.str (f+1) m):=by
 obtain⟨g,e⟩:=h.t.one;have hv:=h.t.str;have hvs:Sp.BC q v=some (Sp.str (f+1) m):=by
  rw[<- hv,<- hq];exact Gx (f:=f+1) (by rw[hq];exact h.t.sub) hs
 have hgd:Sp.gd d x (f+1+q.length) 1 v:=by rw[hq];exact hg.gd
 have h1:=Sp.Ni hgd hvs;have h2:=Sp.GM h1;have h3:=hg.dd;have h4:=Sp.Mq hgd hvs;rw[hq] at h4;have h5:=Sp.It (f:=f) (v:=Sp.str (f+1) m);rw[DN hu,List.length_map] at h5;have h6:=hg.sz;have ht:=EO;refine⟨by simp;omega,?_,by omega,by omega,h1,by omega,hvs⟩;rw[e];exact hs
theorem JS.value{g f:Nat}{q:List Nat}{m m':Sp.A}{w0:World}(h:JS w0 D R wp jn iv ch Tb Mb wb T a v M js)(e:T=Sp.nd R g (.slice [a] []))(hq:f+1+q.length=top)(hs:Sp.sub q a=some m) :
  Sp.put (0::q) m' T=Sp.nd R g (.slice [Sp.put q m' a] [])/\Sp.str top (Sp.put q m' a)=Sp.Ay q (Sp.str (f+1) m') v:=by
 refine⟨?_,?_⟩
 ·rw[e,Sp.BO (c:=a) m' rfl];rfl
 ·have hv:=h.t.str;have h1:=Sp.OC (w:=w0) (p:=q) (f:=f+1) (u:=.pointer wp) (a:=a) (n:=m) m' (by rw[hq];exact h.t.sub) hs;rw[hq,hv] at h1;exact h1
end
end

section
open Go.RowKit Go.Maps
theorem Jx{w:World}{F:Nat->Prop}{d x:Int}{B:Nat}{xv:Sp.V}{y:Option Addr}(h:Rep top F w (.pointer y) xv)(hx:Sp.Fit d x B xv)(hB:B<=1000000000) :
  Calls Tryz.prog 201 #[.pointer y] w fun e w'=>∃x,e = .returned (.pointer x)/\Hid (Frs w xv x w'):=by
 refine (Gv top xv (Sp.nar_of hx.gd (by have:=hx.sz;omega)) F w _ h).mono ?_;rintro e w' ⟨p,rfl,hb,ht⟩;exact⟨some p,rfl,hb,ht⟩
theorem Frs.at{w w1:World}{d x:Int}{B f:Nat}{xv:Sp.V}{y:Option Addr}{D R:Nat}{wp:Option Addr}{jn iv:Value}{ch:Bool}{Tb T a:Sp.A}{Mb M:Nat->Prop}{wb:World}{v:Sp.V}{js:List Sp.Opn}
  (h:JS w D R wp jn iv ch Tb Mb wb T a v M js) (hf:Frs w xv y w1) (hx:Sp.Fit d x B xv) (h1:1000<=f) (h2:f<=top) :
  ∃ax,Ae f w1 (.pointer y) ax/\Sp.str f ax=xv/\Sp.str top ax=xv/\(Sp.fp f ax).Nodup/\(∀k∈Sp.fp f ax,w.heap.size<=k/\k<w1.heap.size) /\ ∀k∈Sp.fp f ax,¬ M k/\k ∉ Sp.fp (top+1) T/\k≠D/\jn.ownBlock≠some k/\wb.heap.size<=k:=by
 obtain⟨_,ax,a1,a2,a3,a4⟩:=hf;obtain⟨b1,b2,b3⟩:=a1.fit (f:=f) (by rw[a2];exact Sp.Cj hx.gd (by have:=hx.dd;omega)) h2;have hlt:=a1.lt;exact⟨ax,b1,b3.trans a2,a2,b2▸a3,fun k hk=>⟨a4 k (b2▸hk),hlt k (b2▸hk)⟩,fun k hk=>h.new (a4 k (b2▸hk))⟩
section
variable{w:World}{D R:Nat}{wp:Option Addr}{jn iv:Value}{ch:Bool}{Tb T a:Sp.A}{Mb M:Nat->Prop}{wb:World}{v xv:Sp.V}{js:List Sp.Opn}{y:Option Addr}{F:Nat->Prop}{d x:Int}{B:Nat}
theorem LS{pa:Option Addr}{cap:Nat}(h:JS w D R wp jn iv ch Tb Mb wb T a v M js)(hx:Sp.Fit d x B xv)(hB:B<=1000000000)(hl:js.length<=1000000000)(hy:Rep top F w (.pointer y) xv) :
  Calls Tryz.prog 197 #[.pointer (some ⟨D,0,none⟩),.slice pa 0 cap,.pointer y] w fun e w'=>AP D R iv ch Tb Mb wb M js w (.ok (xv,[(2,[],v)])) e w':=by
 obtain⟨g,eT⟩:=h.t.one;have hM:∀k,M k->k<w.heap.size:=fun k hk=>(h.j.low k hk).1;refine (UP (R:=R) (Q:=fun w'=>AP D R iv ch Tb Mb wb M js w (.ok (xv,[(2,[],v)])) (.returned (.int .i64 0)) w') (Jx hy hx hB) (fun z w1 hq=>?_) (fun z w1 hq=>?_)).mono ?_
 ·exact (h.bel hq.1).t.db.c0
 ·have h1:=h.bel hq.1;obtain⟨ax,b1,b2,b2',b3,b4,b5⟩:=Frs.at h hq hx (f:=top) (by have:=EO;omega) (Nat.le_refl _);have hp:=MJ (f:=top) (p:=[]) (i:=0) (key:=[]) (path:=[]) (pa:=none) (pl:=0) (pc:=0) (c:=a) (m:=T) (L:=top+1) rfl h1.j rfl (Or.inl ⟨R,g,[a],eT,rfl⟩) (by rw[eT];exact⟨by rw[Sp.B2];simp,by simp⟩) hl (Or.inl ⟨rfl,none,0,rfl,by simp⟩) (Nat.le_refl _) b1 b3 b5;have hblk:Sp.blk T=R:=by rw[eT];rfl
  rw[hblk] at hp;refine hp.mono ?_;rintro e w' ⟨rfl,he⟩;refine⟨rfl,AP.below hq.1 hM (JS.ok (T1:=Sp.put [] (Sp.Bx 0 [] ax T) T) (g:=g) (a1:=ax) ?_ ?_ b2')⟩
  ·have:=h.t.str;rw[<- this];exact he
  ·rw[eT];rfl
 ·rintro e w' ⟨rfl,hq⟩;exact hq
theorem OG{n i:Nat}{t:Sp.By}(h:Sp.C5 n t = .ok i):i<=n:=by
 unfold Sp.C5 at h;split at h
 ·injection h with h;omega
 ·split at h
  ·cases h
  ·split at h
   ·cases h
   ·injection h with h;omega
theorem My{n c:Nat}{t:Sp.By}(h:Sp.C5 n t = .error c):c≠0:=by
 unfold Sp.C5 at h;split at h
 ·cases h
 ·split at h
  ·injection h with h;omega
  ·split at h
   ·injection h with h;omega
   ·cases h
theorem Ck{d:Sp.V}{s:List Sp.By}{c:Nat}(h:Sp.Ag d s = .error c):c≠0:=by
 induction s generalizing d with
 | nil=>cases h
 | cons t r ih =>
  unfold Sp.Ag at h;split at h
  ·exact ih h
  ·rename_i c' hc;injection h with h;have:=EZ hc;omega
theorem Dc{d:Sp.V}{s:List Sp.By}{q:List Nat}(h:Sp.Bz d s=some q):Sp.way d s=q:=by unfold Sp.way;rw[h];rfl
theorem DL(s:List Sp.By)(t:Sp.By):Sp.BX (s++[t])=some (s,t):=by unfold Sp.BX;simp
theorem Af.bel{w w':World}(h:Af w)(hb:Below w.heap.size w w'):Af w':=h.below (hb.mono h.ng)
theorem WT{g o n cap:Nat}{s:List Sp.By}{t:Sp.By}(h:JS w D R wp jn iv ch Tb Mb wb T a v M js)(hT:Af w)(hv:Sp.Fit d x B v)(hx:Sp.Fit d x B xv)(hB:B<=900000000)(hl:js.length<=1000000000)(hy:Rep top F w (.pointer y) xv)
  (hn:n=s.length) (hc:n+1<=cap) (hcm:cap<=maxLen) (hgM:GA (top+1) Tb wb M g) (hp:CX w g o (s++[t])) (hok:Sp.PathOk (s++[t])) :
  Calls Tryz.prog 197 #[.pointer (some ⟨D,0,none⟩),.slice (some ⟨g,o,none⟩) (n+1) cap,.pointer y] w fun e w'=>AP D R iv ch Tb Mb wb M js w (Sp.BU v (s++[t]) xv) e w':=by
 have hM:∀k,M k->k<w.heap.size:=fun k hk=>(h.j.low k hk).1;have p1:=hok.len;have p2:=hok.tok;have hts:∀u∈s,u.length<=1048576:=fun u hu=>by have:=p2 u (by simp[hu]);omega
 have htt:t.length<=1048576:=by have:=p2 t (by simp);omega
 have hsl:s.length<=1048576:=by simp at p1;omega
 have hclone:=Jx hy hx (B:=B) (by omega);have hpm:∀w1,Below w.heap.size w w1->CX w1 g o (s++[t]):=fun w1 hb=>hp.move (hb.block g hp.1);have hEnd:∀ {r:Except Nat (Sp.V×List Sp.Opn)} {e:Ending} {w1 w2:World},Below w.heap.size w w1->AP D R iv ch Tb Mb wb M js w1 r e w2->AP D R iv ch Tb Mb wb M js w r e w2:=fun hb k=>AP.below hb hM k;subst hn;unfold Sp.BU;rw[DL];simp only;cases hf:Sp.Ag v s with
 | error c =>
  refine (UO (t:=t) (Ck hf) (Q:=fun w'=>Below w.heap.size w w') hclone (fun z w1 hq=>(JT (h.bel hq.1) (hT.bel hq.1).rng (hpm w1 hq.1) rfl hc hcm hts hsl hf).mono ?_)).mono ?_
  ·rintro e w' ⟨rfl,hb⟩;exact⟨rfl,hq.1.trans (hb.mono hq.1.size)⟩
  ·rintro e w' ⟨rfl,hb⟩;exact h.err hb
 | ok nv =>
  have hvs:=h.t.str;have hf2:=hf;rw[<- hvs] at hf2;obtain⟨f,q,m,u,e1,e2,e3,e4,e5⟩:=CC h.t.sub hf2;obtain⟨g',eT⟩:=h.t.one;obtain⟨n1,n2,n3,n4,n5,n6,n7⟩:=h.node hv e1 e2 e3;rw[hvs] at e5;obtain⟨k1,k2⟩:=h.value (m':=m) eT e1 e2;obtain⟨ub,rfl,_⟩:=e3.ptr;have hpar:∀z w1,Frs w xv z w1->Calls Tryz.prog 243 #[.pointer (some ⟨D,0,none⟩),.slice (some ⟨g,o,none⟩) (s.length+1) cap] w1 fun e w'=>e = .returned (.tuple #[.pointer (some ⟨ub,0,none⟩),.string ⟨t.toArray⟩,.int .i64 0])/\Frs w xv z w':=fun z w1 hq=>by
   refine (Hj (h.bel hq.1) (hT.bel hq.1).rng (hpm w1 hq.1) rfl hc hcm hts hsl hf e2 (e3.bel hq.1) e5).mono ?_;rintro e w' ⟨rfl,hb⟩;exact⟨rfl,hq.bel hb⟩
  have hft:f<=top:=by omega
  have e3':=e3;obtain⟨b,gg,xx,rfl,hub,e3'⟩:=e3';injection hub with hub;injection hub with hub;injection hub with hub _ _;subst hub;simp only;rw[<- e4];rcases e3' with⟨k,hk,_,rfl,hvb⟩|⟨nm,_,rfl,hvb,hbd⟩|⟨st,_,rfl,hvb⟩|⟨al,sl,ps,rfl,hvb,ho,hs,ha⟩|⟨es,nn,DD,rfl,hvb,ho,hpt⟩
  ·refine (Hz (t:=t) (b:=ub) (k:=k) (by omega) (by omega) (Q1:=Frs w xv) (Q:=fun w'=>Below w.heap.size w w') hclone (fun z w1 hq=>(hpar z w1 hq).mono ?_) (fun w2 hb=>?_)).mono ?_
   ·rintro e w' ⟨rfl,hb⟩;exact⟨rfl,hb.1⟩
   ·exact (hb.cell (p:=⟨_,0,none⟩) hvb.lt).trans hvb.c0
   ·rintro e w' ⟨rfl,hb⟩;exact h.err hb
  ·refine (Hz (t:=t) (b:=ub) (k:=3) (by omega) (by omega) (Q1:=Frs w xv) (Q:=fun w'=>Below w.heap.size w w') hclone (fun z w1 hq=>(hpar z w1 hq).mono ?_) (fun w2 hb=>?_)).mono ?_
   ·rintro e w' ⟨rfl,hb⟩;exact⟨rfl,hb.1⟩
   ·exact (hb.cell (p:=⟨_,0,none⟩) hvb.lt).trans hvb.c0
   ·rintro e w' ⟨rfl,hb⟩;exact h.err hb
  ·refine (Hz (t:=t) (b:=ub) (k:=4) (by omega) (by omega) (Q1:=Frs w xv) (Q:=fun w'=>Below w.heap.size w w') hclone (fun z w1 hq=>(hpar z w1 hq).mono ?_) (fun w2 hb=>?_)).mono ?_
   ·rintro e w' ⟨rfl,hb⟩;exact⟨rfl,hb.1⟩
   ·exact (hb.cell (p:=⟨_,0,none⟩) hvb.lt).trans hvb.c0
   ·rintro e w' ⟨rfl,hb⟩;exact h.err hb
  ·-- an array
   have hkl:al.length<=B:=n4;have hpl:ps.length=al.length:=ha.length;have hcell:∀z w2,Frs w xv z w2->VB w2 ub 5 n0 [] sl (.map none)/\w2.ownsRow 0 80 1 sl ps.length ps:=fun z w2 hq=>by
    refine⟨hvb.kept (hq.1.block _ hvb.lt),AZ ho fun g1 hg1=>hq.1.block _ (AA ho g1 hg1).1⟩
   cases hsl2:Sp.C5 al.length t with
   | error c =>
    have hr:Sp.Ce v s t (Sp.str (f+1) (Sp.nd ub gg (.slice al []))) xv = .error c:=by
     rw[Sp.Bo];unfold Sp.Ce Sp.Ar;simp only[List.length_map,hsl2]
    rw[hr];refine (SD (t:=t) (b:=ub) (My hsl2) (Q1:=Frs w xv) (Q2:=Frs w xv) (Q:=fun w'=>Below w.heap.size w w') hclone hpar (fun z w2 hq=>(hcell z w2 hq).1.c0) (fun z w2 hq=>?_)).mono ?_
    ·obtain⟨c1,c2⟩:=hcell z w2 hq;refine (Mz htt (hT.bel hq.1).rng c1 c2).mono ?_;rintro e w' ⟨rfl,hb⟩;rw[hpl,hsl2];exact⟨rfl,hq.1.trans (hb.mono hq.1.size)⟩
    ·rintro e w' ⟨rfl,hb⟩;exact h.err hb
   | ok i =>
    have hi:=OG hsl2;have hr:Sp.Ce v s t (Sp.str (f+1) (Sp.nd ub gg (.slice al []))) xv = .ok (Sp.Ay q (Sp.CV i Sp.noB xv (Sp.str (f+1) (Sp.nd ub gg (.slice al [])))) v,[(1,s++[Lib.itoa (i:Int)],.nil)]):=by
     rw[Sp.Bo];unfold Sp.Ce Sp.Ar;simp only[List.length_map,hsl2,Dc e5]
    rw[hr];refine (UQ (b:=ub) (i:=i) (Q1:=Frs w xv) (Q2:=Frs w xv) (Q3:=Frs w xv) (Q4:=fun z g2 c2 w4=>∃w3,Frs w xv z w3/\Below w3.heap.size w3 w4/\w4.ownsRow w3.heap.size 9 1 (.slice (some ⟨g2,0,none⟩) (s.length+1) c2) (s.length+1) (Ig (s++[Lib.itoa (i:Int)])))
     (Q:=fun w'=>AP D R iv ch Tb Mb wb M js w (.ok (Sp.Ay q (Sp.CV i Sp.noB xv (Sp.str (f+1) (Sp.nd ub gg (.slice al [])))) v,[(1,s++[Lib.itoa (i:Int)],.nil)])) (.returned (.int .i64 0)) w')
     hclone hpar (fun z w2 hq=>(hcell z w2 hq).1.c0) (fun z w2 hq=>?_) (fun z w3 hq=>?_) (fun z g2 c2 w4 hq=>?_)).mono ?_
    ·obtain⟨c1,c2⟩:=hcell z w2 hq;refine (Mz htt (hT.bel hq.1).rng c1 c2).mono ?_;rintro e w' ⟨rfl,hb⟩;rw[hpl,hsl2];exact⟨rfl,hq.bel hb⟩
    ·refine (Oi (l:=s++[t]) (hT.bel hq.1) (hpm w3 hq.1) (by simp) (by simp;omega) (by omega)).mono ?_;rintro e w' ⟨g2,c2,rfl,ho2,hb⟩;refine⟨g2,c2,rfl,w3,hq,hb,?_⟩;have:(s++[t]).set s.length (Lib.itoa (i:Int))=s++[Lib.itoa (i:Int)]:=by
      rw[List.set_append_right _ _ (Nat.le_refl _)];simp
     rw[this] at ho2;exact ho2
    ·obtain⟨w3,hq3,hb3,ho2⟩:=hq;have hw4:=hq3.1.trans (hb3.mono hq3.1.size);obtain⟨g3,cap3,ev,r1,r2,r3,r4⟩:=BF ho2 (by omega);injection ev with ev _ ev3;injection ev with ev;injection ev with ev _ _;subst ev;subst ev3;have hg2:w3.heap.size<=g2/\g2<w4.heap.size:=⟨(BP ho2 g2 rfl).2,(BP ho2 g2 rfl).1⟩
     obtain⟨ax,b1,b2,b2',b3,b4,b5⟩:=Frs.at h hq3 hx n3 hft;have hs3:=hq3.1.size;obtain⟨hG,hE⟩:=h.grow hw4 (fun k=>k=g2) (fun k hk=>by subst hk;omega);have hins:=RT (i:=i) (key:=[]) (path:=s++[Lib.itoa (i:Int)]) (pa:=some ⟨g2,0,none⟩) (pl:=s.length+1) (pc:=c2) (m:=Sp.nd ub gg (.slice al [])) (c:=ax) (px:=z) n1 hG.j n2 (Or.inl ⟨ub,gg,al,rfl,hi⟩) ⟨by rw[Sp.B2];omega,by simp⟩ hl
      (Or.inr ⟨g2,0,c2,by simp,by simpa using r1,r2,⟨Or.inr rfl,Or.inl (by have:=h.j.up.1;omega)⟩,hg2.2,fun k hk=>by
       have:=r4 k (by simpa using hk);rw[Nat.zero_add,this];exact congrArg some (List.getElem_map (fun t:Sp.By=>Value.string ⟨t.toArray⟩))⟩) (b1.bel hb3) b3 (fun k hk=>by
        have:=b4 k hk;obtain⟨c1',c2',c3',c4'⟩:=b5 k hk;exact⟨fun hm=>hm.elim c1' (by omega),c2',c3',c4'⟩)
     refine hins.mono ?_;rintro e w5 ⟨rfl,jn',T',M',q1,q2,q3⟩;refine⟨rfl,?_⟩;obtain⟨k1,k2⟩:=h.value (m':=Sp.BS i [] ax (Sp.nd ub gg (.slice al []))) eT e1 e2;rw[Sp.OD (Or.inl ⟨_,_,_,rfl⟩),b2] at k2;rw[k1] at q1;obtain⟨wp',a',hj⟩:=JS.of q2 q1;rw[k2] at hj;exact⟨rfl,wp',jn',T',a',M',hj,hE.trans q3⟩
    ·rintro e w' ⟨rfl,hq⟩;exact hq
  ·-- an object
   have hkl:es.length<=B:=by rw[<- List.length_map (f:=Prod.snd)];exact n4
   have hcell:∀z w2,Frs w xv z w2->w2.cell? ⟨ub,0,none⟩=some (.int .i64 6):=fun z w2 hq=>(hvb.kept (hq.1.block _ hvb.lt)).c0;have hkeys:Sp.Bk (es.map fun p=>(p.1,Sp.str f p.2)):=by
    obtain⟨_,hh⟩:=n5;rw[Sp.Ba] at hh;rcases hh with⟨_,_,hh⟩|⟨_,_,hh⟩|⟨_,_,_,_,hh⟩|⟨_,_,hh⟩|⟨es',h1,h2,hh⟩
    ·cases hh
    ·cases hh
    ·cases hh
    ·cases hh
    ·injection hh with hh;subst hh;exact⟨h1,fun p hp=>by obtain⟨st,hst,_⟩:=(h2 p hp).1;exact⟨st,hst⟩⟩
   have hskey:Sp.Bk es:=by
    refine⟨?_,fun p hp=>hkeys.2 (p.1,Sp.str f p.2) (List.mem_map.2 ⟨p,hp,rfl⟩)⟩;have:=hkeys.1;rw[List.pairwise_map] at this;exact this
   have hpath:∀w1,Below w.heap.size w w1->AM w1 (GA (top+1) Tb wb M) (.slice (some ⟨g,o,none⟩) (s.length+1) cap) (s++[t]):=fun w1 hb=>Or.inr ⟨g,o,cap,by simp,by simpa using hc,hcm,hgM,hpm w1 hb⟩;cases hh:Maps.has (.map (es.map fun p=>(p.1,Sp.str f p.2)):Sp.V) (.string t) with
   | true =>
    obtain⟨p',hp',hk1,hk2⟩:=O4 (Sp.OI hkeys.1 hkeys.2) hkeys.2 hh;obtain⟨p0,hp0,rfl⟩:=List.mem_map.1 hp';obtain⟨k0,c0⟩:=p0;simp only at hk1 hk2;subst hk1;have hr:Sp.Ce v s t (Sp.str (f+1) (Sp.nd ub gg (.map es))) xv = .ok (Sp.Ay q (Sp.DH 0 t xv (Sp.str (f+1) (Sp.nd ub gg (.map es)))) v,[(2,s++[t],Sp.str f c0)]):=by
     rw[Sp.Ba];unfold Sp.Ce Sp.Av;simp only[if_pos hh,Dc e5,hk2]
    rw[hr];refine (NH (Q1:=Frs w xv) (Q2:=Frs w xv) (Q:=fun w'=>AP D R iv ch Tb Mb wb M js w (.ok (Sp.Ay q (Sp.DH 0 t xv (Sp.str (f+1) (Sp.nd ub gg (.map es)))) v,[(2,s++[t],Sp.str f c0)])) (.returned (.int .i64 0)) w') hclone hpar hcell (fun z w2 hq=>?_)).mono ?_
    ·obtain⟨ax,b1,b2,b2',b3,b4,b5⟩:=Frs.at h hq hx n3 hft;refine (MJ (i:=0) (key:=t) (m:=Sp.nd ub gg (.map es)) (c:=c0) n1 (h.bel hq.1).j n2 (Or.inr ⟨ub,gg,es,rfl,hp0,hskey⟩) ⟨by rw[Sp.BI,List.length_map];omega,htt⟩ hl (hpath w2 hq.1) hft b1 b3 b5).mono ?_;rintro e w' ⟨rfl,he⟩;obtain⟨k1,k2⟩:=h.value (m':=Sp.Bx 0 t ax (Sp.nd ub gg (.map es))) eT e1 e2;rw[Sp.OB (Or.inr ⟨_,_,_,rfl⟩),b2] at k2;exact⟨rfl,hEnd hq.1 (JS.ok he k1 k2)⟩
    ·rintro e w' ⟨rfl,hq⟩;exact hq
   | false =>
    have hr:Sp.Ce v s t (Sp.str (f+1) (Sp.nd ub gg (.map es))) xv = .ok (Sp.Ay q (Sp.CV 0 t xv (Sp.str (f+1) (Sp.nd ub gg (.map es)))) v,[(1,s++[t],.nil)]):=by
     rw[Sp.Ba];unfold Sp.Ce Sp.Av;simp only[hh,Dc e5];rw[if_neg (by decide)]
    rw[hr];have hno:∀p∈es,p.1≠Lit.string t:=fun p hp e=>by
     have h1:Maps.has (.map (es.map fun p=>(p.1,Sp.str f p.2)):Sp.V) (.string t)=true:=List.any_eq_true.2 ⟨_,List.mem_map.2 ⟨p,hp,rfl⟩,by show p.1.sameKey _=true;rw[e];exact WideAt.sameKey_self (show WideAt.IsKeyLit (Lit.string t) from trivial)⟩;rw[hh] at h1;cases h1
    refine (NH (Q1:=Frs w xv) (Q2:=Frs w xv) (Q:=fun w'=>AP D R iv ch Tb Mb wb M js w (.ok (Sp.Ay q (Sp.CV 0 t xv (Sp.str (f+1) (Sp.nd ub gg (.map es)))) v,[(1,s++[t],.nil)])) (.returned (.int .i64 0)) w') hclone hpar hcell (fun z w2 hq=>?_)).mono ?_
    ·obtain⟨ax,b1,b2,b2',b3,b4,b5⟩:=Frs.at h hq hx n3 hft;refine (OK (i:=0) (key:=t) (b:=ub) (g:=gg) (es:=es) n1 (h.bel hq.1).j n2 hno ⟨by rw[Sp.BI,List.length_map];omega,htt⟩ hl (hpath w2 hq.1) b1 b3 b5).mono ?_;rintro e w' ⟨rfl,he⟩;obtain⟨k1,k2⟩:=h.value (m':=Sp.BS 0 t ax (Sp.nd ub gg (.map es))) eT e1 e2;rw[Sp.OD (Or.inr ⟨_,_,_,rfl⟩),b2] at k2;exact⟨rfl,hEnd hq.1 (JS.ok he k1 k2)⟩
    ·rintro e w' ⟨rfl,hq⟩;exact hq
theorem KM{pv:Value}{p:List Sp.By}(h:JS w D R wp jn iv ch Tb Mb wb T a v M js)(hT:Af w)(hv:Sp.Fit d x B v)(hx:Sp.Fit d x B xv)(hB:B<=900000000)(hl:js.length<=1000000000)(hy:Rep top F w (.pointer y) xv)
  (hp:AM w (GA (top+1) Tb wb M) pv p) (hok:Sp.PathOk p) :
  Calls Tryz.prog 197 #[.pointer (some ⟨D,0,none⟩),pv,.pointer y] w fun e w'=>AP D R iv ch Tb Mb wb M js w (Sp.BU v p xv) e w':=by
 rcases hp with⟨rfl,pa,c,rfl,_⟩|⟨g,o,cap,rfl,h1,h2,h3,h4⟩
 ·exact LS h hx (by omega) hl hy
 ·by_cases hp0:p=[]
  ·subst hp0;exact LS h hx (by omega) hl hy
  ·obtain⟨s,t,rfl⟩:∃s t,p=s++[t]:=⟨p.dropLast,p.getLast hp0,(List.dropLast_concat_getLast hp0).symm⟩
   have hlen:(s++[t]).length=s.length+1:=by simp
   rw[hlen] at h1 |-;exact WT h hT hv hx hB hl hy rfl h1 h2 h3 h4 hok
end
end

section
set_option maxHeartbeats 4000000
set_option maxRecDepth 100000
open Go.RowKit Go.Maps
abbrev opV(k:Nat)(pa:Option Addr)(pl pc:Nat)(fa:Option Addr)(fl fc:Nat)(y:Option Addr):Value:=.agg #[.int .i64 k,.slice pa pl pc,.slice fa fl fc,.pointer y]
def OpB(w:World)(q k:Nat)(pa:Option Addr)(pl pc:Nat)(fa:Option Addr)(fl fc:Nat)(y:Option Addr):Prop:=w.heap[q]? = some (.cells #[.int .i64 k,.slice pa pl pc,.slice fa fl fc,.pointer y] 178 (0,0))
section
variable{w:World}{q k:Nat}{pa fa y:Option Addr}{pl pc fl fc:Nat}
theorem OpB.lt(h:OpB w q k pa pl pc fa fl fc y):q<w.heap.size:=(Array.getElem?_eq_some_iff.1 h).1
theorem OpB.c0(h:OpB w q k pa pl pc fa fl fc y):w.cell? ⟨q,0,none⟩=some (.int .i64 k):=by simp[World.cell?,show w.heap[q]? = _ from h]
theorem OpB.c1(h:OpB w q k pa pl pc fa fl fc y):w.cell? ⟨q,1,none⟩=some (.slice pa pl pc):=by simp[World.cell?,show w.heap[q]? = _ from h]
theorem OpB.c2(h:OpB w q k pa pl pc fa fl fc y):w.cell? ⟨q,2,none⟩=some (.slice fa fl fc):=by simp[World.cell?,show w.heap[q]? = _ from h]
theorem OpB.c3(h:OpB w q k pa pl pc fa fl fc y):w.cell? ⟨q,3,none⟩=some (.pointer y):=by simp[World.cell?,show w.heap[q]? = _ from h]
theorem OpB.low{w':World}(h:OpB w q k pa pl pc fa fl fc y)(hb:Below w.heap.size w w'):OpB w' q k pa pl pc fa fl fc y:=(hb.block q h.lt).trans h
end
section
variable{w:World}{D k b i:Nat}{pa fa qa y:Option Addr}{pl pc fl fc ql qc c:Nat}{key:Sp.By}{Q:World->Prop}
theorem Sq{Q:Nat->World->Prop}(hA:∀w1,Below w.heap.size w w1->Calls Tryz.prog 197 #[.pointer (some ⟨D,0,none⟩),.slice pa pl pc,.pointer y] w1 fun e w'=>∃c:Nat,e = .returned (.int .i64 c)/\Hid (Q c w')) :
  Calls Tryz.prog 151 #[.pointer (some ⟨D,0,none⟩),opV k pa pl pc fa fl fc y] w fun e w'=>∃c:Nat,e = .returned (.int .i64 c)/\Q c w':=by
 have HA:=Ab hA;have HBA:=Ab ((Below.refl w.heap.size w).alloc (Nat.le_refl _) (.cells #[.int .i64 k,.slice pa pl pc,.slice fa fl fc,.pointer y] 178));clear hA
 go_enter func151,ntmps151
 go_wp2_with (fail);refine (Aa HA _ (Aa HBA)).mono ?_
 rintro e w2 ⟨c,rfl,hq⟩
 go_wp2_with (fail)
 go_ret;exact⟨c,rfl,Aa hq⟩
theorem Nx:Calls Tryz.prog 152 #[.pointer (some ⟨D,0,none⟩),opV k pa 0 pc fa fl fc y] w fun e w'=>e = .returned (.int .i64 11)/\Below w.heap.size w w':=by
 have HBA:=Ab ((Below.refl w.heap.size w).alloc (Nat.le_refl _) (.cells #[.int .i64 k,.slice pa 0 pc,.slice fa fl fc,.pointer y] 178))
 go_enter func152,ntmps152
 go_wp2_with (fail)
 go_ret;exact⟨rfl,Aa HBA⟩
theorem Ny(hl:pl≠0)(hc:c≠0)(hT:∀w1,Below w.heap.size w w1->Calls Tryz.prog 198 #[.pointer (some ⟨D,0,none⟩),.slice pa pl pc] w1 fun e w'=>e = .returned (.tuple #[plZ,.int .i64 c])/\Below w1.heap.size w1 w') :
  Calls Tryz.prog 152 #[.pointer (some ⟨D,0,none⟩),opV k pa pl pc fa fl fc y] w fun e w'=>e = .returned (.int .i64 c)/\Below w.heap.size w w':=by
 have HT:=Ab hT;have hob:OpB (w.alloc (.cells #[.int .i64 k,.slice pa pl pc,.slice fa fl fc,.pointer y] 178)) w.heap.size k pa pl pc fa fl fc y:=heap_alloc_new w _;have hba:=(Below.refl w.heap.size w).alloc (Nat.le_refl _) (.cells #[.int .i64 k,.slice pa pl pc,.slice fa fl fc,.pointer y] 178);have HBA:=Ab hba;have HOB:=Ab hob;have hs:=hba.size;have e0:¬ ((pl:Int)=0):=by omega
 have e2:((c:Int) != 0)=true:=by rw[bne_iff_ne];omega
 have e3:((c:Int) == 0)=false:=by rw[beq_eq_false_iff_ne];omega
 have b1:=hob.c1;clear hT hob hba hc hl
 go_enter func152,ntmps152
 go_wp2_with (fail);generalize w.alloc (.cells #[.int .i64 k,.slice pa pl pc,.slice fa fl fc,.pointer y] 178)=wa at *
 go_wp2_with (fail);refine (Aa HT wa (Aa HBA)).mono ?_
 rintro e w2 ⟨rfl,hb⟩;have hs2:=hb.size;have HB:=Ab ((Aa HBA).trans (hb.mono (by omega)));clear hb b1
 go_wp2_with (fail)
 go_ret;exact⟨rfl,(Aa HB).alloc (by omega) _⟩
theorem Oe(hl:pl≠0)(hT:∀w1,Below w.heap.size w w1->Calls Tryz.prog 198 #[.pointer (some ⟨D,0,none⟩),.slice pa pl pc] w1 fun e w'=>e = .returned (.tuple #[plV (.slice qa ql qc) b key i,.int .i64 0])/\Below w1.heap.size w1 w')
  (hR:∀w1,Below w.heap.size w w1->Calls Tryz.prog 199 #[.pointer (some ⟨D,0,none⟩),plV (.slice qa ql qc) b key i] w1 fun e w'=>e = .returned (.tuple #[])/\Q w') :
  Calls Tryz.prog 152 #[.pointer (some ⟨D,0,none⟩),opV k pa pl pc fa fl fc y] w fun e w'=>e = .returned (.int .i64 0)/\Q w':=by
 have HT:=Ab hT;have HR:=Ab hR;have hob:OpB (w.alloc (.cells #[.int .i64 k,.slice pa pl pc,.slice fa fl fc,.pointer y] 178)) w.heap.size k pa pl pc fa fl fc y:=heap_alloc_new w _;have hba:=(Below.refl w.heap.size w).alloc (Nat.le_refl _) (.cells #[.int .i64 k,.slice pa pl pc,.slice fa fl fc,.pointer y] 178);have HBA:=Ab hba;have hs:=hba.size;have e0:¬ ((pl:Int)=0):=by omega
 have b1:=hob.c1;clear hT hR hob hba hl
 go_enter func152,ntmps152
 go_wp2_with (fail);generalize w.alloc (.cells #[.int .i64 k,.slice pa pl pc,.slice fa fl fc,.pointer y] 178)=wa at *
 go_wp2_with (fail);refine (Aa HT wa (Aa HBA)).mono ?_
 rintro e w2 ⟨rfl,hb⟩;have hs2:=hb.size;have hbp:AN (plW w2 qa ql qc b key i) w2.heap.size (.slice qa ql qc) b key i:=heap_alloc_new w2 _;have HB:=Ab (((Aa HBA).trans (hb.mono (by omega))).alloc (by omega) (.cells #[.slice qa ql qc,.pointer (some ⟨b,0,none⟩),.string ⟨key.toArray⟩,.int .i64 i] 185));have e0:=hbp.c0;have e1:=hbp.c1;have e2:=hbp.c2;have e3:=hbp.c3;clear hb b1 hbp
 go_wp2_with (fail);refine (Aa HR _ (Aa HB)).mono ?_
 rintro e w3 ⟨rfl,hq⟩;have HQ:=Ab hq;clear hq
 go_wp2_with (fail)
 go_ret;exact⟨rfl,Aa HQ⟩
theorem LY(hc:c≠0)(hT:∀w1,Below w.heap.size w w1->Calls Tryz.prog 198 #[.pointer (some ⟨D,0,none⟩),.slice pa pl pc] w1 fun e w'=>e = .returned (.tuple #[plZ,.int .i64 c])/\Below w1.heap.size w1 w') :
  Calls Tryz.prog 153 #[.pointer (some ⟨D,0,none⟩),opV k pa pl pc fa fl fc y] w fun e w'=>e = .returned (.int .i64 c)/\Below w.heap.size w w':=by
 have HT:=Ab hT;have hob:OpB (w.alloc (.cells #[.int .i64 k,.slice pa pl pc,.slice fa fl fc,.pointer y] 178)) w.heap.size k pa pl pc fa fl fc y:=heap_alloc_new w _;have hba:=(Below.refl w.heap.size w).alloc (Nat.le_refl _) (.cells #[.int .i64 k,.slice pa pl pc,.slice fa fl fc,.pointer y] 178);have HBA:=Ab hba;have hs:=hba.size;have e2:((c:Int) != 0)=true:=by rw[bne_iff_ne];omega
 have e3:((c:Int) == 0)=false:=by rw[beq_eq_false_iff_ne];omega
 have b1:=hob.c1;clear hT hob hba hc
 go_enter func153,ntmps153
 go_wp2_with (fail);generalize w.alloc (.cells #[.int .i64 k,.slice pa pl pc,.slice fa fl fc,.pointer y] 178)=wa at *
 go_wp2_with (fail);refine (Aa HT wa (Aa HBA)).mono ?_
 rintro e w2 ⟨rfl,hb⟩;have hs2:=hb.size;have HB:=Ab ((Aa HBA).trans (hb.mono (by omega)));clear hb b1
 go_wp2_with (fail)
 go_ret;exact⟨rfl,(Aa HB).alloc (by omega) _⟩
theorem Nw{Q1:Option Addr->World->Prop}(hT:∀w1,Below w.heap.size w w1->Calls Tryz.prog 198 #[.pointer (some ⟨D,0,none⟩),.slice pa pl pc] w1 fun e w'=>e = .returned (.tuple #[plV (.slice qa ql qc) b key i,.int .i64 0])/\Below w1.heap.size w1 w')
  (hC:∀w1,Below w.heap.size w w1->Calls Tryz.prog 201 #[.pointer y] w1 fun e w'=>∃x,e = .returned (.pointer x)/\Below w1.heap.size w1 w'/\Hid (Q1 x w'))
  (hS:∀x w1 w2,Q1 x w1->Below w.heap.size w w1->Below w1.heap.size w1 w2->Calls Tryz.prog 200 #[.pointer (some ⟨D,0,none⟩),plV (.slice qa ql qc) b key i,.pointer x] w2 fun e w'=>e = .returned (.tuple #[])/\Q w') :
  Calls Tryz.prog 153 #[.pointer (some ⟨D,0,none⟩),opV k pa pl pc fa fl fc y] w fun e w'=>e = .returned (.int .i64 0)/\Q w':=by
 have HT:=Ab hT;have HC:=Ab hC;have HS:=Ab hS;have hob:OpB (w.alloc (.cells #[.int .i64 k,.slice pa pl pc,.slice fa fl fc,.pointer y] 178)) w.heap.size k pa pl pc fa fl fc y:=heap_alloc_new w _;have hba:=(Below.refl w.heap.size w).alloc (Nat.le_refl _) (.cells #[.int .i64 k,.slice pa pl pc,.slice fa fl fc,.pointer y] 178);have HBA:=Ab hba;have HOB:=Ab hob;have hs:=hba.size;have b1:=hob.c1;clear hT hC hS hob hba
 go_enter func153,ntmps153
 go_wp2_with (fail);generalize w.alloc (.cells #[.int .i64 k,.slice pa pl pc,.slice fa fl fc,.pointer y] 178)=wa at *
 go_wp2_with (fail);refine (Aa HT wa (Aa HBA)).mono ?_
 rintro e w2 ⟨rfl,hb⟩;have hs2:=hb.size;obtain⟨w3,hw3⟩:∃w3,w3=w2.alloc (.cells #[.slice qa ql qc,.pointer (some ⟨b,0,none⟩),.string ⟨key.toArray⟩,.int .i64 i] 185):=⟨_,rfl⟩
 have hbp:AN w3 w2.heap.size (.slice qa ql qc) b key i:=by rw[hw3];exact heap_alloc_new w2 _
 have hpl:w2.heap.size<w3.heap.size:=(Array.getElem?_eq_some_iff.1 hbp).1;have hb23:Below w2.heap.size w2 w3:=by rw[hw3];exact (Below.refl _ _).alloc (Nat.le_refl _) _
 have hB:=((Aa HBA).trans (hb.mono (by omega))).trans (hb23.mono (by omega));have hob2:OpB w3 w.heap.size k pa pl pc fa fl fc y:=((Aa HOB).low hb).low hb23;have HPB:=Ab hbp;have HB:=Ab hB;have HW3:=Ab hw3;have b3:=hob2.c3;have e0:=hbp.c0;have e1:=hbp.c1;have e2:=hbp.c2;have e3:=hbp.c3;clear hb b1 hbp hB hob2 hb23 hw3
 go_wp2_with (fail);rw[<- Aa HW3]
 clear HW3
 go_region_with (first
  | (go_at_call 201;refine (Aa HC _ ?_).mono ?_;exact⟨(Aa HB).os,(Aa HB).tape,(Aa HB).output,(Aa HB).size,(Aa HB).block⟩;rintro x w4 ⟨z,rfl,hb4,hq1⟩;replace hb4:Below w3.heap.size w3 w4:=⟨hb4.os,hb4.tape,hb4.output,hb4.size,hb4.block⟩;have p4:AN w4 w2.heap.size (.slice qa ql qc) b key i:=(hb4.block _ hpl).trans (Aa HPB);have f0:=p4.c0;have f1:=p4.c1;have f2:=p4.c2;have f3:=p4.c3;have HB4:=Ab hb4;clear hb4 p4)
  | (go_at_call 200;refine (Aa HS z w4 _ (Aa hq1) ((Aa HB).trans ((Aa HB4).mono (Aa HB).size)) ?_).mono ?_;exact⟨rfl,rfl,rfl,Nat.le_refl _,fun _ _=>rfl⟩;rintro x w5 ⟨rfl,hq⟩;have HQ:=Ab hq;clear hq))
 all_goals (
  go_wp2_with (fail)
  go_ret;exact⟨rfl,Aa HQ⟩)
end
end

section
set_option maxHeartbeats 4000000
set_option maxRecDepth 100000
open Go.RowKit Go.Maps
section
variable{w:World}{D k b i:Nat}{pa fa qa y wp:Option Addr}{pl pc fl fc ql qc c:Nat}{key:Sp.By}{Q:World->Prop}
theorem Qj(hc:c≠0)(hT:∀w1,Below w.heap.size w w1->Calls Tryz.prog 198 #[.pointer (some ⟨D,0,none⟩),.slice fa fl fc] w1 fun e w'=>e = .returned (.tuple #[plZ,.int .i64 c])/\Below w1.heap.size w1 w') :
  Calls Tryz.prog 154 #[.pointer (some ⟨D,0,none⟩),opV k pa pl pc fa fl fc y] w fun e w'=>e = .returned (.int .i64 c)/\Below w.heap.size w w':=by
 have HT:=Ab hT;have hob:OpB (w.alloc (.cells #[.int .i64 k,.slice pa pl pc,.slice fa fl fc,.pointer y] 178)) w.heap.size k pa pl pc fa fl fc y:=heap_alloc_new w _;have hba:=(Below.refl w.heap.size w).alloc (Nat.le_refl _) (.cells #[.int .i64 k,.slice pa pl pc,.slice fa fl fc,.pointer y] 178);have HBA:=Ab hba;have hs:=hba.size;have e2:((c:Int) != 0)=true:=by rw[bne_iff_ne];omega
 have e3:((c:Int) == 0)=false:=by rw[beq_eq_false_iff_ne];omega
 have b2:=hob.c2;clear hT hob hba hc
 go_enter func154,ntmps154
 go_wp2_with (fail);generalize w.alloc (.cells #[.int .i64 k,.slice pa pl pc,.slice fa fl fc,.pointer y] 178)=wa at *
 go_wp2_with (fail);refine (Aa HT wa (Aa HBA)).mono ?_
 rintro e w2 ⟨rfl,hb⟩;have hs2:=hb.size;have HB:=Ab ((Aa HBA).trans (hb.mono (by omega)));clear hb b2
 go_wp2_with (fail)
 go_ret;exact⟨rfl,(Aa HB).alloc (by omega) _⟩
structure FV(w:World)(k:Nat)(pa:Option Addr)(pl pc:Nat)(fa:Option Addr)(fl fc:Nat)(y:Option Addr)(qa:Option Addr)(ql qc b:Nat)(key:Sp.By)(i q:Nat)(w3:World):Prop where
 bel:Below w.heap.size w w3
 op:OpB w3 w.heap.size k pa pl pc fa fl fc y
 pb:AN w3 q (.slice qa ql qc) b key i
 le:w.heap.size<q
theorem FV.low{w w3 w4:World}{q:Nat}(h:FV w k pa pl pc fa fl fc y qa ql qc b key i q w3)(hb:Below w3.heap.size w3 w4):FV w k pa pl pc fa fl fc y qa ql qc b key i q w4 :=
 ⟨h.bel.trans (hb.mono h.bel.size),h.op.low hb,(hb.block q (Array.getElem?_eq_some_iff.1 h.pb).1).trans h.pb,h.le⟩
theorem FV.mk'{w wa w2 w3:World}(h1:Below w.heap.size w wa)(h2:OpB wa w.heap.size k pa pl pc fa fl fc y)(hb:Below wa.heap.size wa w2)(hw3:w3=w2.alloc (.cells #[.slice qa ql qc,.pointer (some ⟨b,0,none⟩),.string ⟨key.toArray⟩,.int .i64 i] 185)):FV w k pa pl pc fa fl fc y qa ql qc b key i w2.heap.size w3:=by
 have hs:=hb.size;have h3:=h2.lt;have hb2:Below w2.heap.size w2 w3:=by rw[hw3];exact (Below.refl _ _).alloc (Nat.le_refl _) _
 refine⟨(h1.trans (hb.mono h1.size)).trans (hb2.mono (by have:=h1.size;omega)),(h2.low hb).low hb2,by rw[hw3];exact heap_alloc_new w2 _,by omega⟩
theorem Of(hT:∀w1,Below w.heap.size w w1->Calls Tryz.prog 198 #[.pointer (some ⟨D,0,none⟩),.slice fa fl fc] w1 fun e w'=>e = .returned (.tuple #[plV (.slice qa ql qc) b key i,.int .i64 0])/\Below w1.heap.size w1 w')
  (hE:∀w1,Below w.heap.size w w1->Calls Tryz.prog 202 #[.slice fa fl fc,.slice pa pl pc] w1 fun e w'=>e = .returned (.bool true)/\Below w1.heap.size w1 w') :
  Calls Tryz.prog 154 #[.pointer (some ⟨D,0,none⟩),opV k pa pl pc fa fl fc y] w fun e w'=>e = .returned (.int .i64 0)/\Below w.heap.size w w':=by
 have HT:=Ab hT;have HE:=Ab hE;have hob:OpB (w.alloc (.cells #[.int .i64 k,.slice pa pl pc,.slice fa fl fc,.pointer y] 178)) w.heap.size k pa pl pc fa fl fc y:=heap_alloc_new w _;have hba:=(Below.refl w.heap.size w).alloc (Nat.le_refl _) (.cells #[.int .i64 k,.slice pa pl pc,.slice fa fl fc,.pointer y] 178);have HBA:=Ab hba;have HOB:=Ab hob;have b2:=hob.c2;clear hT hE hob hba
 go_enter func154,ntmps154
 go_wp2_with (fail);generalize w.alloc (.cells #[.int .i64 k,.slice pa pl pc,.slice fa fl fc,.pointer y] 178)=wa at *
 go_wp2_with (fail);refine (Aa HT wa (Aa HBA)).mono ?_
 rintro e w2 ⟨rfl,hb⟩;obtain⟨w3,hw3⟩:∃w3,w3=w2.alloc (.cells #[.slice qa ql qc,.pointer (some ⟨b,0,none⟩),.string ⟨key.toArray⟩,.int .i64 i] 185):=⟨_,rfl⟩
 have hM:=FV.mk' (qa:=qa) (ql:=ql) (qc:=qc) (b:=b) (key:=key) (i:=i) (Aa HBA) (Aa HOB) hb hw3;have HM:=Ab hM;have HW3:=Ab hw3;have c1:=hM.op.c1;have c2:=hM.op.c2;have k1:∀o,(w2.alloc o).cell? ⟨w.heap.size,1,none⟩=some (.slice pa pl pc):=fun o=>(World.cell?_of_block (w:=w2) (Below.heap_alloc w2 o _ ((Aa HOB).low hb).lt)).trans ((Aa HOB).low hb).c1;have k2:∀o,(w2.alloc o).cell? ⟨w.heap.size,2,none⟩=some (.slice fa fl fc):=fun o=>(World.cell?_of_block (w:=w2) (Below.heap_alloc w2 o _ ((Aa HOB).low hb).lt)).trans ((Aa HOB).low hb).c2;clear hb b2 hM hw3
 go_wp2_with (fail);rw[<- Aa HW3]
 clear HW3 k1 k2;refine (Aa HE w3 (Aa HM).bel).mono ?_;rintro e w4 ⟨rfl,hb⟩;have HM4:=Ab ((Aa HM).low hb);clear hb c1 c2
 go_wp2_with (fail)
 go_ret;exact⟨rfl,(Aa HM4).bel⟩
theorem NA(hT:∀w1,Below w.heap.size w w1->Calls Tryz.prog 198 #[.pointer (some ⟨D,0,none⟩),.slice fa fl fc] w1 fun e w'=>e = .returned (.tuple #[plV (.slice qa ql qc) b key i,.int .i64 0])/\Below w1.heap.size w1 w')
  (hE:∀w1,Below w.heap.size w w1->Calls Tryz.prog 202 #[.slice fa fl fc,.slice pa pl pc] w1 fun e w'=>e = .returned (.bool false)/\Below w1.heap.size w1 w')
  (hL:∀w1,Below w.heap.size w w1->Calls Tryz.prog 203 #[.slice pa pl pc,.slice fa fl fc] w1 fun e w'=>e = .returned (.bool true)/\Below w1.heap.size w1 w') :
  Calls Tryz.prog 154 #[.pointer (some ⟨D,0,none⟩),opV k pa pl pc fa fl fc y] w fun e w'=>e = .returned (.int .i64 13)/\Below w.heap.size w w':=by
 have HT:=Ab hT;have HE:=Ab hE;have HL:=Ab hL;have hob:OpB (w.alloc (.cells #[.int .i64 k,.slice pa pl pc,.slice fa fl fc,.pointer y] 178)) w.heap.size k pa pl pc fa fl fc y:=heap_alloc_new w _;have hba:=(Below.refl w.heap.size w).alloc (Nat.le_refl _) (.cells #[.int .i64 k,.slice pa pl pc,.slice fa fl fc,.pointer y] 178);have HBA:=Ab hba;have HOB:=Ab hob;have b2:=hob.c2;clear hT hE hL hob hba
 go_enter func154,ntmps154
 go_wp2_with (fail);generalize w.alloc (.cells #[.int .i64 k,.slice pa pl pc,.slice fa fl fc,.pointer y] 178)=wa at *
 go_wp2_with (fail);refine (Aa HT wa (Aa HBA)).mono ?_
 rintro e w2 ⟨rfl,hb⟩;obtain⟨w3,hw3⟩:∃w3,w3=w2.alloc (.cells #[.slice qa ql qc,.pointer (some ⟨b,0,none⟩),.string ⟨key.toArray⟩,.int .i64 i] 185):=⟨_,rfl⟩
 have hM:=FV.mk' (qa:=qa) (ql:=ql) (qc:=qc) (b:=b) (key:=key) (i:=i) (Aa HBA) (Aa HOB) hb hw3;have HM:=Ab hM;have HW3:=Ab hw3;have c1:=hM.op.c1;have c2:=hM.op.c2;have k1:∀o,(w2.alloc o).cell? ⟨w.heap.size,1,none⟩=some (.slice pa pl pc):=fun o=>(World.cell?_of_block (w:=w2) (Below.heap_alloc w2 o _ ((Aa HOB).low hb).lt)).trans ((Aa HOB).low hb).c1;have k2:∀o,(w2.alloc o).cell? ⟨w.heap.size,2,none⟩=some (.slice fa fl fc):=fun o=>(World.cell?_of_block (w:=w2) (Below.heap_alloc w2 o _ ((Aa HOB).low hb).lt)).trans ((Aa HOB).low hb).c2;clear hb b2 hM hw3
 go_wp2_with (fail);rw[<- Aa HW3]
 clear HW3 k1 k2;refine (Aa HE w3 (Aa HM).bel).mono ?_;rintro e w4 ⟨rfl,hb⟩;have hM4:=(Aa HM).low hb;have HM4:=Ab hM4;clear hb c1 c2;have c1:=hM4.op.c1;have c2:=hM4.op.c2;clear hM4
 go_wp2_with (fail);refine (Aa HL w4 (Aa HM4).bel).mono ?_
 rintro e w5 ⟨rfl,hb⟩;have HM5:=Ab ((Aa HM4).low hb);clear hb c1 c2
 go_wp2_with (fail)
 go_ret;exact⟨rfl,(Aa HM5).bel⟩
theorem Ql{Q1:World->Prop}{Q:Nat->World->Prop}{x:Option Addr}(hT:∀w1,Below w.heap.size w w1->Calls Tryz.prog 198 #[.pointer (some ⟨D,0,none⟩),.slice fa fl fc] w1 fun e w'=>e = .returned (.tuple #[plV (.slice qa ql qc) b key i,.int .i64 0])/\Below w1.heap.size w1 w')
  (hE:∀w1,Below w.heap.size w w1->Calls Tryz.prog 202 #[.slice fa fl fc,.slice pa pl pc] w1 fun e w'=>e = .returned (.bool false)/\Below w1.heap.size w1 w')
  (hL:∀w1,Below w.heap.size w w1->Calls Tryz.prog 203 #[.slice pa pl pc,.slice fa fl fc] w1 fun e w'=>e = .returned (.bool false)/\Below w1.heap.size w1 w')
  (hG:∀w1,Below w.heap.size w w1->Calls Tryz.prog 159 #[plV (.slice qa ql qc) b key i] w1 fun e w'=>e = .returned (.pointer x)/\Below w1.heap.size w1 w')
  (hR:∀w1,Below w.heap.size w w1->OpB w1 w.heap.size k pa pl pc fa fl fc y->Calls Tryz.prog 199 #[.pointer (some ⟨D,0,none⟩),plV (.slice qa ql qc) b key i] w1 fun e w'=>e = .returned (.tuple #[])/\OpB w' w.heap.size k pa pl pc fa fl fc y/\Hid (Q1 w'))
  (hA:∀w1,Q1 w1->Calls Tryz.prog 197 #[.pointer (some ⟨D,0,none⟩),.slice pa pl pc,.pointer x] w1 fun e w'=>∃c:Nat,e = .returned (.int .i64 c)/\Hid (Q c w')) :
  Calls Tryz.prog 154 #[.pointer (some ⟨D,0,none⟩),opV k pa pl pc fa fl fc y] w fun e w'=>∃c:Nat,e = .returned (.int .i64 c)/\Q c w':=by
 have HT:=Ab hT;have HE:=Ab hE;have HL:=Ab hL;have HG:=Ab hG;have HR:=Ab hR;have HA:=Ab hA;have hob:OpB (w.alloc (.cells #[.int .i64 k,.slice pa pl pc,.slice fa fl fc,.pointer y] 178)) w.heap.size k pa pl pc fa fl fc y:=heap_alloc_new w _;have hba:=(Below.refl w.heap.size w).alloc (Nat.le_refl _) (.cells #[.int .i64 k,.slice pa pl pc,.slice fa fl fc,.pointer y] 178);have HBA:=Ab hba;have HOB:=Ab hob;have b2:=hob.c2;clear hT hE hL hG hR hA hob hba
 go_enter func154,ntmps154
 go_wp2_with (fail);generalize w.alloc (.cells #[.int .i64 k,.slice pa pl pc,.slice fa fl fc,.pointer y] 178)=wa at *
 go_wp2_with (fail);refine (Aa HT wa (Aa HBA)).mono ?_
 rintro e w2 ⟨rfl,hb⟩;obtain⟨w3,hw3⟩:∃w3,w3=w2.alloc (.cells #[.slice qa ql qc,.pointer (some ⟨b,0,none⟩),.string ⟨key.toArray⟩,.int .i64 i] 185):=⟨_,rfl⟩
 have hM:=FV.mk' (qa:=qa) (ql:=ql) (qc:=qc) (b:=b) (key:=key) (i:=i) (Aa HBA) (Aa HOB) hb hw3;have HM:=Ab hM;have HW3:=Ab hw3;have c1:=hM.op.c1;have c2:=hM.op.c2;have k1:∀o,(w2.alloc o).cell? ⟨w.heap.size,1,none⟩=some (.slice pa pl pc):=fun o=>(World.cell?_of_block (w:=w2) (Below.heap_alloc w2 o _ ((Aa HOB).low hb).lt)).trans ((Aa HOB).low hb).c1;have k2:∀o,(w2.alloc o).cell? ⟨w.heap.size,2,none⟩=some (.slice fa fl fc):=fun o=>(World.cell?_of_block (w:=w2) (Below.heap_alloc w2 o _ ((Aa HOB).low hb).lt)).trans ((Aa HOB).low hb).c2;clear hb b2 hM hw3
 go_wp2_with (fail);rw[<- Aa HW3]
 clear HW3 k1 k2;refine (Aa HE w3 (Aa HM).bel).mono ?_;rintro e w4 ⟨rfl,hb⟩;have hM4:=(Aa HM).low hb;have HM4:=Ab hM4;clear hb c1 c2;have c1:=hM4.op.c1;have c2:=hM4.op.c2;clear hM4
 go_wp2_with (fail);refine (Aa HL w4 (Aa HM4).bel).mono ?_
 rintro e w5 ⟨rfl,hb⟩;have hM5:=(Aa HM4).low hb;have HM5:=Ab hM5;clear hb c1 c2;have e0:=hM5.pb.c0;have e1:=hM5.pb.c1;have e2:=hM5.pb.c2;have e3:=hM5.pb.c3;clear hM5
 go_wp2_with (fail);refine (Aa HG w5 (Aa HM5).bel).mono ?_
 rintro e w6 ⟨rfl,hb⟩;have hM6:=(Aa HM5).low hb;have HM6:=Ab hM6;clear hb e0 e1 e2 e3;have e0:=hM6.pb.c0;have e1:=hM6.pb.c1;have e2:=hM6.pb.c2;have e3:=hM6.pb.c3;clear hM6
 go_wp2_with (fail);refine (Aa HR w6 (Aa HM6).bel (Aa HM6).op).mono ?_
 rintro e w7 ⟨rfl,ho7,hq⟩;have c1:=ho7.c1;clear ho7 e0 e1 e2 e3
 go_wp2_with (fail);refine (Aa HA w7 (Aa hq)).mono ?_
 rintro e w8 ⟨c,rfl,hq8⟩
 go_wp2_with (fail)
 go_ret;exact⟨c,rfl,Aa hq8⟩
theorem Qm(hc:c≠0)(hW:∀w1,Below w.heap.size w w1->Calls Tryz.prog 56 #[.pointer (some ⟨D,0,none⟩)] w1 fun x w'=>x = .returned (.pointer wp)/\Below w1.heap.size w1 w')
  (hF:∀w1,Below w.heap.size w w1->Calls Tryz.prog 81 #[.slice fa fl fc,.pointer wp] w1 fun e w'=>e = .returned (.tuple #[.pointer none,.int .i64 c])/\Below w1.heap.size w1 w') :
  Calls Tryz.prog 155 #[.pointer (some ⟨D,0,none⟩),opV k pa pl pc fa fl fc y] w fun e w'=>e = .returned (.int .i64 c)/\Below w.heap.size w w':=by
 have HW:=Ab hW;have HF:=Ab hF;have hob:OpB (w.alloc (.cells #[.int .i64 k,.slice pa pl pc,.slice fa fl fc,.pointer y] 178)) w.heap.size k pa pl pc fa fl fc y:=heap_alloc_new w _;have hba:=(Below.refl w.heap.size w).alloc (Nat.le_refl _) (.cells #[.int .i64 k,.slice pa pl pc,.slice fa fl fc,.pointer y] 178);have hol:=hob.lt;have HBA:=Ab hba;have HOB:=Ab hob;have hs:=hba.size;have e2:((c:Int) != 0)=true:=by rw[bne_iff_ne];omega
 have e3:((c:Int) == 0)=false:=by rw[beq_eq_false_iff_ne];omega
 have b2:=hob.c2;clear hW hF hob hba hc
 go_enter func155,ntmps155
 go_wp2_with (fail);generalize w.alloc (.cells #[.int .i64 k,.slice pa pl pc,.slice fa fl fc,.pointer y] 178)=wa at *
 go_region_with (first
  | (go_at_call 56;refine (Aa HW _ ?_).mono ?_;exact⟨(Aa HBA).os,(Aa HBA).tape,(Aa HBA).output,(Aa HBA).size,(Aa HBA).block⟩;rintro x w2 ⟨rfl,hb2⟩;replace hb2:Below wa.heap.size wa w2:=⟨hb2.os,hb2.tape,hb2.output,hb2.size,hb2.block⟩;have d2:=((Aa HOB).low hb2).c2;have HB2:=Ab hb2;clear hb2)
  | (go_at_call 81;refine (Aa HF _ ?_).mono ?_;exact (Aa HBA).trans (((Aa HB2).mono (Aa HBA).size).trans ⟨rfl,rfl,rfl,Nat.le_refl _,fun _ _=>rfl⟩);rintro e w3 ⟨rfl,hb3⟩;replace hb3:Below w2.heap.size w2 w3:=⟨hb3.os,hb3.tape,hb3.output,hb3.size,hb3.block⟩;have HB3:=Ab hb3;clear hb3))
 all_goals (
  go_wp2_with (fail)
  go_ret;exact⟨rfl,(Aa HBA).trans (((Aa HB2).trans ((Aa HB3).mono (Aa HB2).size)).mono (Aa HBA).size)⟩)
theorem Sn{Q:Nat->World->Prop}{x:Option Addr}(hW:∀w1,Below w.heap.size w w1->Calls Tryz.prog 56 #[.pointer (some ⟨D,0,none⟩)] w1 fun x w'=>x = .returned (.pointer wp)/\Below w1.heap.size w1 w')
  (hF:∀w1,Below w.heap.size w w1->Calls Tryz.prog 81 #[.slice fa fl fc,.pointer wp] w1 fun e w'=>e = .returned (.tuple #[.pointer x,.int .i64 0])/\Below w1.heap.size w1 w')
  (hA:∀w1,Below w.heap.size w w1->Calls Tryz.prog 197 #[.pointer (some ⟨D,0,none⟩),.slice pa pl pc,.pointer x] w1 fun e w'=>∃c:Nat,e = .returned (.int .i64 c)/\Hid (Q c w')) :
  Calls Tryz.prog 155 #[.pointer (some ⟨D,0,none⟩),opV k pa pl pc fa fl fc y] w fun e w'=>∃c:Nat,e = .returned (.int .i64 c)/\Q c w':=by
 have HW:=Ab hW;have HF:=Ab hF;have HA:=Ab hA;have hob:OpB (w.alloc (.cells #[.int .i64 k,.slice pa pl pc,.slice fa fl fc,.pointer y] 178)) w.heap.size k pa pl pc fa fl fc y:=heap_alloc_new w _;have hba:=(Below.refl w.heap.size w).alloc (Nat.le_refl _) (.cells #[.int .i64 k,.slice pa pl pc,.slice fa fl fc,.pointer y] 178);have hol:=hob.lt;have HBA:=Ab hba;have HOB:=Ab hob;have hs:=hba.size;have b2:=hob.c2;clear hW hF hA hob hba
 go_enter func155,ntmps155
 go_wp2_with (fail);generalize w.alloc (.cells #[.int .i64 k,.slice pa pl pc,.slice fa fl fc,.pointer y] 178)=wa at *
 go_region_with (first
  | (go_at_call 56;refine (Aa HW _ ?_).mono ?_;exact⟨(Aa HBA).os,(Aa HBA).tape,(Aa HBA).output,(Aa HBA).size,(Aa HBA).block⟩;rintro x w2 ⟨rfl,hb2⟩;replace hb2:Below wa.heap.size wa w2:=⟨hb2.os,hb2.tape,hb2.output,hb2.size,hb2.block⟩;have d2:=((Aa HOB).low hb2).c2;have HB2:=Ab hb2;clear hb2)
  | (go_at_call 81;refine (Aa HF _ ?_).mono ?_;exact (Aa HBA).trans (((Aa HB2).mono (Aa HBA).size).trans ⟨rfl,rfl,rfl,Nat.le_refl _,fun _ _=>rfl⟩);rintro e w3 ⟨rfl,hb3⟩;replace hb3:Below w2.heap.size w2 w3:=⟨hb3.os,hb3.tape,hb3.output,hb3.size,hb3.block⟩;have HB3:=Ab hb3;clear hb3))
 all_goals (
  have hob3:=((Aa HOB).low (Aa HB2)).low (Aa HB3);have c1:=hob3.c1;have HBF:=Ab ((Aa HBA).trans (((Aa HB2).trans ((Aa HB3).mono (Aa HB2).size)).mono (Aa HBA).size));clear hob3
  try clear d2
  clear b2
  go_wp2_with (fail);refine (Aa HA _ ?_).mono ?_
  ·exact⟨(Aa HBF).os,(Aa HBF).tape,(Aa HBF).output,(Aa HBF).size,(Aa HBF).block⟩
  ·rintro e w8 ⟨c,rfl,hq8⟩
   go_wp2_with (fail)
   go_ret;exact⟨c,rfl,Aa hq8⟩)
theorem Qh(hc:c≠0)(hW:∀w1,Below w.heap.size w w1->Calls Tryz.prog 56 #[.pointer (some ⟨D,0,none⟩)] w1 fun x w'=>x = .returned (.pointer wp)/\Below w1.heap.size w1 w')
  (hF:∀w1,Below w.heap.size w w1->Calls Tryz.prog 81 #[.slice pa pl pc,.pointer wp] w1 fun e w'=>e = .returned (.tuple #[.pointer none,.int .i64 c])/\Below w1.heap.size w1 w') :
  Calls Tryz.prog 156 #[.pointer (some ⟨D,0,none⟩),opV k pa pl pc fa fl fc y] w fun e w'=>e = .returned (.int .i64 c)/\Below w.heap.size w w':=by
 have HW:=Ab hW;have HF:=Ab hF;have hob:OpB (w.alloc (.cells #[.int .i64 k,.slice pa pl pc,.slice fa fl fc,.pointer y] 178)) w.heap.size k pa pl pc fa fl fc y:=heap_alloc_new w _;have hba:=(Below.refl w.heap.size w).alloc (Nat.le_refl _) (.cells #[.int .i64 k,.slice pa pl pc,.slice fa fl fc,.pointer y] 178);have hol:=hob.lt;have HBA:=Ab hba;have HOB:=Ab hob;have hs:=hba.size;have e2:((c:Int) != 0)=true:=by rw[bne_iff_ne];omega
 have e3:((c:Int) == 0)=false:=by rw[beq_eq_false_iff_ne];omega
 have b1:=hob.c1;clear hW hF hob hba hc
 go_enter func156,ntmps156
 go_wp2_with (fail);generalize w.alloc (.cells #[.int .i64 k,.slice pa pl pc,.slice fa fl fc,.pointer y] 178)=wa at *
 go_region_with (first
  | (go_at_call 56;refine (Aa HW _ ?_).mono ?_;exact⟨(Aa HBA).os,(Aa HBA).tape,(Aa HBA).output,(Aa HBA).size,(Aa HBA).block⟩;rintro x w2 ⟨rfl,hb2⟩;replace hb2:Below wa.heap.size wa w2:=⟨hb2.os,hb2.tape,hb2.output,hb2.size,hb2.block⟩;have d1:=((Aa HOB).low hb2).c1;have HB2:=Ab hb2;clear hb2)
  | (go_at_call 81;refine (Aa HF _ ?_).mono ?_;exact (Aa HBA).trans (((Aa HB2).mono (Aa HBA).size).trans ⟨rfl,rfl,rfl,Nat.le_refl _,fun _ _=>rfl⟩);rintro e w3 ⟨rfl,hb3⟩;replace hb3:Below w2.heap.size w2 w3:=⟨hb3.os,hb3.tape,hb3.output,hb3.size,hb3.block⟩;have HB3:=Ab hb3;clear hb3))
 all_goals (
  go_wp2_with (fail)
  go_ret;exact⟨rfl,(Aa HBA).trans (((Aa HB2).trans ((Aa HB3).mono (Aa HB2).size)).mono (Aa HBA).size)⟩)
theorem Sm{x:Option Addr}{bo:Bool}(hW:∀w1,Below w.heap.size w w1->Calls Tryz.prog 56 #[.pointer (some ⟨D,0,none⟩)] w1 fun x w'=>x = .returned (.pointer wp)/\Below w1.heap.size w1 w')
  (hF:∀w1,Below w.heap.size w w1->Calls Tryz.prog 81 #[.slice pa pl pc,.pointer wp] w1 fun e w'=>e = .returned (.tuple #[.pointer x,.int .i64 0])/\Below w1.heap.size w1 w')
  (hS:∀w1,Below w.heap.size w w1->Calls Tryz.prog 82 #[.pointer x,.pointer y] w1 fun e w'=>e = .returned (.bool bo)/\Below w1.heap.size w1 w') :
  Calls Tryz.prog 156 #[.pointer (some ⟨D,0,none⟩),opV k pa pl pc fa fl fc y] w fun e w'=>e = .returned (.int .i64 (if bo=true then 0 else 14))/\Below w.heap.size w w':=by
 have HW:=Ab hW;have HF:=Ab hF;have HS:=Ab hS;have hob:OpB (w.alloc (.cells #[.int .i64 k,.slice pa pl pc,.slice fa fl fc,.pointer y] 178)) w.heap.size k pa pl pc fa fl fc y:=heap_alloc_new w _;have hba:=(Below.refl w.heap.size w).alloc (Nat.le_refl _) (.cells #[.int .i64 k,.slice pa pl pc,.slice fa fl fc,.pointer y] 178);have hol:=hob.lt;have HBA:=Ab hba;have HOB:=Ab hob;have hs:=hba.size;have b1:=hob.c1;clear hW hF hS hob hba
 go_enter func156,ntmps156
 go_wp2_with (fail);generalize w.alloc (.cells #[.int .i64 k,.slice pa pl pc,.slice fa fl fc,.pointer y] 178)=wa at *
 go_region_with (first
  | (go_at_call 56;refine (Aa HW _ ?_).mono ?_;exact⟨(Aa HBA).os,(Aa HBA).tape,(Aa HBA).output,(Aa HBA).size,(Aa HBA).block⟩;rintro x w2 ⟨rfl,hb2⟩;replace hb2:Below wa.heap.size wa w2:=⟨hb2.os,hb2.tape,hb2.output,hb2.size,hb2.block⟩;have d1:=((Aa HOB).low hb2).c1;have HB2:=Ab hb2;clear hb2)
  | (go_at_call 81;refine (Aa HF _ ?_).mono ?_;exact (Aa HBA).trans (((Aa HB2).mono (Aa HBA).size).trans ⟨rfl,rfl,rfl,Nat.le_refl _,fun _ _=>rfl⟩);rintro e w3 ⟨rfl,hb3⟩;replace hb3:Below w2.heap.size w2 w3:=⟨hb3.os,hb3.tape,hb3.output,hb3.size,hb3.block⟩;have HB3:=Ab hb3;clear hb3))
 all_goals (
  have hob3:=((Aa HOB).low (Aa HB2)).low (Aa HB3);have c3:=hob3.c3;have HBF:=Ab ((Aa HBA).trans (((Aa HB2).trans ((Aa HB3).mono (Aa HB2).size)).mono (Aa HBA).size));clear hob3
  try clear d1
  clear b1
  go_wp2_with (fail);refine (Aa HS _ ?_).mono ?_
  ·exact⟨(Aa HBF).os,(Aa HBF).tape,(Aa HBF).output,(Aa HBF).size,(Aa HBF).block⟩
  ·rintro e w8 ⟨rfl,hb8⟩;have HB8:=Ab ((Aa HBF).trans ((show Below w3.heap.size w3 w8 from⟨hb8.os,hb8.tape,hb8.output,hb8.size,hb8.block⟩).mono (Aa HBF).size));clear hb8;cases bo;all_goals (
    go_wp2_with (fail)
    go_ret;exact⟨rfl,Aa HB8⟩))
end
end

section
open Go.RowKit Go.Maps
theorem Q6{f i:Nat}{w:World}{u:Value}{m c:Sp.A}{t:Sp.By}{d x lv:Int}(hu:Ae (f+1) w u m)(hg:Sp.gd d x (f+1) lv (Sp.str (f+1) m))(hp:Sp.pos (Sp.str (f+1) m) t=some i)(hk:(Sp.AL m)[i]? = some c):AV m ((Sp.idx t).getD 0) t c:=by
 obtain⟨b,g,xx,rfl,rfl,h⟩:=hu;rcases h with⟨k,_,_,rfl,_⟩|⟨n,_,rfl,_⟩|⟨s,_,rfl,_⟩|⟨al,sl,ps,rfl,h,ho,hs,ha⟩|⟨es,n,D,rfl,h,ho,hpt⟩
 ·rw[Sp.FR] at hk;cases hk
 ·rw[Sp.GJ] at hk;cases hk
 ·rw[Sp.GI] at hk;cases hk
 ·rw[Sp.B2] at hk;rw[Sp.Bo] at hp;unfold Sp.pos Sp.Ar at hp;simp only at hp;cases hi:Sp.idx t with
  | none=>rw[hi] at hp;cases hp
  | some j =>
   rw[hi] at hp;simp only at hp;split at hp
   ·injection hp with hp;subst hp;exact Or.inl ⟨b,g,al,rfl,hk⟩
   ·cases hp
 ·rw[Sp.BI] at hk;rw[Sp.Ba] at hp hg;have hkeys:Sp.Bk (es.map fun p=>(p.1,Sp.str f p.2)):=by
   obtain⟨_,hh⟩:=hg;rcases hh with⟨_,_,hh⟩|⟨_,_,hh⟩|⟨_,_,_,_,hh⟩|⟨_,_,hh⟩|⟨es',h1,h2,hh⟩
   ·cases hh
   ·cases hh
   ·cases hh
   ·cases hh
   ·injection hh with hh;subst hh;exact⟨h1,fun p hp=>by obtain⟨st,hst,_⟩:=(h2 p hp).1;exact⟨st,hst⟩⟩
  have hskey:Sp.Bk es:=by
   refine⟨?_,fun p hp=>hkeys.2 (p.1,Sp.str f p.2) (List.mem_map.2 ⟨p,hp,rfl⟩)⟩;have:=hkeys.1;rw[List.pairwise_map] at this;exact this
  unfold Sp.pos Sp.Av at hp;simp only at hp;rw[List.findIdx?_map] at hp;obtain⟨hi,h1,_⟩:=List.findIdx?_eq_some_iff_getElem.1 hp;rw[List.getElem?_map,List.getElem?_eq_getElem hi] at hk;injection hk with hk;obtain⟨s,hs⟩:=hskey.2 _ (List.getElem_mem hi);have h1':(es[i].1).sameKey (.string t)=true:=h1;rw[hs] at h1';have hst:=Sp.DK.1 h1';subst hst;refine Or.inr ⟨b,g,es,rfl,?_,hskey⟩;have:=List.getElem_mem hi;rw[show es[i]=(Lit.string s,c) from Prod.ext hs hk] at this;exact this
section
variable{w:World}{D R:Nat}{wp:Option Addr}{jn iv:Value}{ch:Bool}{Tb T a:Sp.A}{Mb M:Nat->Prop}{wb:World}{v xv:Sp.V}{js:List Sp.Opn}{y:Option Addr}{F:Nat->Prop}{d x:Int}{B:Nat}
theorem Hc{p:List Sp.By}{c:Nat}{pa:Option Addr}{pl pc:Nat}(h:JS w D R wp jn iv ch Tb Mb wb T a v M js)(hT:Af w)(hp:AM w (GA (top+1) Tb wb M) (.slice pa pl pc) p)(hok:Sp.PathOk p)(hf:Sp.Ag v p = .error c) :
  ∀w1,Below w.heap.size w w1->Calls Tryz.prog 198 #[.pointer (some ⟨D,0,none⟩),.slice pa pl pc] w1 fun e w'=>e = .returned (.tuple #[plZ,.int .i64 c])/\Below w1.heap.size w1 w':=by
 intro w1 hb1;have hne:p≠[]:=by rintro rfl;cases hf
 obtain⟨s,t,rfl⟩:∃s t,p=s++[t]:=⟨p.dropLast,p.getLast hne,(List.dropLast_concat_getLast hne).symm⟩
 have p1:=hok.len;have p2:=hok.tok;have hts:∀u∈s,u.length<=1048576:=fun u hu=>by have:=p2 u (by simp[hu]);omega
 have htt:t.length<=1048576:=by have:=p2 t (by simp);omega
 have hsl:s.length<=1048576:=by simp at p1;omega
 rcases hp with⟨e,_⟩|⟨g,o,cap,e,h1,h2,h3,h4⟩
 ·exact absurd e hne
 ·injection e with ea eb ec;subst ea;subst eb;subst ec;have hlen:(s++[t]).length=s.length+1:=by simp
  rw[hlen] at h1 |-;have hcne:=Ck hf;have hpm:∀w2,Below w1.heap.size w1 w2->CX w2 g o (s++[t]):=fun w2 hb=>(h4.move (hb1.block g h4.1)).move (hb.block g (Nat.lt_of_lt_of_le h4.1 hb1.size));have hJ1:=h.bel hb1;have hT1:=hT.bel hb1;rw[BL] at hf;cases hs:Sp.Ag v s with
  | error c' =>
   rw[hs] at hf;injection hf with hf;subst hf;exact Qq hcne fun w2 hb=>JT (hJ1.bel hb) (hT1.bel hb).rng (hpm w2 hb) rfl h1 h2 hts hsl hs
  | ok nv =>
   rw[hs] at hf;have hvs:=h.t.str;have hf2:=hs;rw[<- hvs] at hf2;obtain⟨f,q,m,u,e1,e2,e3,e4,e5⟩:=CC h.t.sub hf2;rw[hvs] at e5;obtain⟨ub,rfl,_⟩:=e3.ptr;have e3':=e3.bel hb1;refine Qs (y:=none) hcne (fun w2 hb=>Hj (hJ1.bel hb) (hT1.bel hb).rng (hpm w2 hb) rfl h1 h2 hts hsl hs e2 (e3'.bel hb) e5) fun w2 hb=>(Jl htt (hT1.bel hb).rng (e3'.bel hb)).mono ?_;rintro e w' ⟨hk,hb2⟩;unfold DP at hk;rw[e4] at hk;simp only at hf;rw[hf] at hk;exact⟨hk,hb2⟩
theorem I1{p:List Sp.By}{ev:Sp.V}{pa:Option Addr}{pl pc:Nat}(h:JS w D R wp jn iv ch Tb Mb wb T a v M js)(hT:Af w)(hv:Sp.Fit d x B v)(hB:B<=900000000)(hp:AM w (GA (top+1) Tb wb M) (.slice pa pl pc) p)(hok:Sp.PathOk p)(hf:Sp.Ag v p = .ok ev) :
  ∃f q m c i key qa ql qc,f+1+List.length q=top+1/\Sp.sub q T=some m/\AV m i key c/\Sp.str f c=ev/\1000<=f/\f<=top/\Ca m key/\AM w (GA (top+1) Tb wb M) (.slice qa ql qc) p /\
   (p≠[] -> ∃g a1,Sp.put q (Sp.Cb i key m) T=Sp.nd R g (.slice [a1] [])/\Sp.B7 v p = .ok (Sp.str top a1,[(0,p,ev)])) /\
   (∀xa,∃g a1,Sp.put q (Sp.Bx i key xa m) T=Sp.nd R g (.slice [a1] [])/\Sp.CM v p (Sp.str f xa) = .ok (Sp.str top a1,[(2,p,ev)])) /\
   ∀w1,Below w.heap.size w w1->Calls Tryz.prog 198 #[.pointer (some ⟨D,0,none⟩),.slice pa pl pc] w1 fun e w'=>e = .returned (.tuple #[plV (.slice qa ql qc) (Sp.blk m) key i,.int .i64 0])/\Below w1.heap.size w1 w':=by
 obtain⟨gT,eT⟩:=h.t.one;have hvs:=h.t.str;by_cases hne:p=[]
 ·subst hne;injection hf with hf;subst hf;have hpl:pl=0:=by
   rcases hp with⟨_,a0,c0,e,_⟩|⟨g,o,cap,e,_⟩
   ·injection e
   ·injection e
  subst hpl;refine⟨top,[],T,a,0,[],none,0,0,rfl,rfl,Or.inl ⟨R,gT,[a],eT,rfl⟩,hvs,by have:=EO;omega,Nat.le_refl _,by rw[eT];exact⟨by rw[Sp.B2];simp,by simp⟩,Or.inl ⟨rfl,none,0,rfl,by simp⟩,fun hh=>absurd rfl hh,fun xa=>⟨gT,xa,by rw[eT];rfl,rfl⟩,fun w1 hb1=>?_⟩;have hblk:Sp.blk T=R:=by rw[eT];rfl
  rw[hblk];exact Qr (h.bel hb1).t.db
 ·obtain⟨s,t,rfl⟩:∃s t,p=s++[t]:=⟨p.dropLast,p.getLast hne,(List.dropLast_concat_getLast hne).symm⟩
  have p1:=hok.len;have p2:=hok.tok;have hts:∀u∈s,u.length<=1048576:=fun u hu=>by have:=p2 u (by simp[hu]);omega
  have htt:t.length<=1048576:=by have:=p2 t (by simp);omega
  have hsl:s.length<=1048576:=by simp at p1;omega
  rw[BL] at hf;cases hs:Sp.Ag v s with
  | error c'=>rw[hs] at hf;cases hf
  | ok nv =>
   rw[hs] at hf;simp only at hf;have hf2:=hs;rw[<- hvs] at hf2;obtain⟨f,q,m,u,e1,e2,e3,e4,e5⟩:=CC h.t.sub hf2;obtain⟨n1,n2,n3,n4,n5,n6,n7⟩:=h.node hv e1 e2 e3;rw[hvs] at e5;rw[<- e4] at hf;obtain⟨i0,c,xk,k1,k2,k3,k4⟩:=J3 e3 hf;have hst:=Q6 e3 n5 k1 k2;refine⟨f,0::q,m,c,(Sp.idx t).getD 0,t,pa,pl,pc,n1,n2,hst,k3,n3,by omega,⟨by omega,htt⟩,hp,fun _=>?_,fun xa=>?_,fun w1 hb1=>?_⟩
   ·obtain⟨r1,r2⟩:=h.value (m':=Sp.Cb ((Sp.idx t).getD 0) t m) eT e1 e2;rw[Sp.VH hst.box] at r2;refine⟨gT,_,r1,?_⟩;unfold Sp.B7;rw[DL];simp only[hs];rw[<- e4,hf];simp only;rw[r2,Dc e5]
   ·obtain⟨r1,r2⟩:=h.value (m':=Sp.Bx ((Sp.idx t).getD 0) t xa m) eT e1 e2;rw[Sp.OB hst.box] at r2;refine⟨gT,_,r1,?_⟩;unfold Sp.CM;rw[DL];simp only[hs];rw[<- e4,hf];simp only;rw[r2,Dc e5]
   ·rcases hp with⟨e,_⟩|⟨g,o,cap,e,h1,h2,h3,h4⟩
    ·exact absurd e hne
    ·injection e with ea eb ec;subst ea;subst eb;subst ec;have hlen:(s++[t]).length=s.length+1:=by simp
     rw[hlen] at h1 |-;have hpm:∀w2,Below w1.heap.size w1 w2->CX w2 g o (s++[t]):=fun w2 hb=>(h4.move (hb1.block g h4.1)).move (hb.block g (Nat.lt_of_lt_of_le h4.1 hb1.size));have hJ1:=h.bel hb1;have hT1:=hT.bel hb1;obtain⟨ub,rfl,_⟩:=e3.ptr;have hblk:Sp.blk m=ub:=by
      obtain⟨b',g',x',rfl,eu,_⟩:=e3;injection eu with eu;injection eu with eu;injection eu with eu _ _;exact eu.symm
     rw[hblk];have e3':=e3.bel hb1;refine Sz (b:=ub) (io:=Sp.idx t) (fun w2 hb=>Hj (hJ1.bel hb) (hT1.bel hb).rng (hpm w2 hb) rfl h1 h2 hts hsl hs e2 (e3'.bel hb) e5) (fun w2 hb=>(Jl htt (hT1.bel hb).rng (e3'.bel hb)).mono ?_) (fun w2 hb=>FW t w2 htt (hT1.bel hb).rng);rintro e w' ⟨hk,hb2⟩;unfold DP at hk;rw[hf] at hk;obtain⟨i',c',x',_,_,_,rfl,hx'⟩:=hk;obtain⟨xb,rfl,_⟩:=hx'.ptr;exact⟨⟨_,rfl⟩,hb2⟩
theorem UJ{p:List Sp.By}{c:Nat}(hne:p≠[])(hf:Sp.Ag v p = .error c):Sp.B7 v p = .error c:=by
 obtain⟨s,t,rfl⟩:∃s t,p=s++[t]:=⟨p.dropLast,p.getLast hne,(List.dropLast_concat_getLast hne).symm⟩
 rw[BL] at hf;unfold Sp.B7;rw[DL];cases hs:Sp.Ag v s with
 | error c' =>
  rw[hs] at hf;injection hf with hf;subst hf;simp only;rw[hs]
 | ok nv=>rw[hs] at hf;simp only at hf |-; rw[hs];simp only;rw[hf]
theorem UG{p:List Sp.By}{c:Nat}(hf:Sp.Ag v p = .error c):Sp.CM v p xv = .error c:=by
 have hne:p≠[]:=by rintro rfl;cases hf
 obtain⟨s,t,rfl⟩:∃s t,p=s++[t]:=⟨p.dropLast,p.getLast hne,(List.dropLast_concat_getLast hne).symm⟩
 rw[BL] at hf;unfold Sp.CM;rw[DL];cases hs:Sp.Ag v s with
 | error c' =>
  rw[hs] at hf;injection hf with hf;subst hf;simp only;rw[hs]
 | ok nv=>rw[hs] at hf;simp only at hf |-; rw[hs];simp only;rw[hf]
theorem K7{L f:Nat}{p:List Nat}{i:Nat}{rv:Value}{m c:Sp.A}{key:Sp.By}{pa:Option Addr}{pl pc:Nat}{path:List Sp.By}(hL:f+1+p.length=L)
  (hJ:Bm L w D rv jn iv ch Tb Mb wb T M js) (hs:Sp.sub p T=some m) (hf:AV m i key c) (hr:Ca m key) (hl:js.length<=1000000000) (hp:AM w (GA L Tb wb M) (.slice pa pl pc) path) (hft:f<=top) :
  Calls Tryz.prog 199 #[.pointer (some ⟨D,0,none⟩),plV (.slice pa pl pc) (Sp.blk m) key i] w fun e w'=>e = .returned (.tuple #[]) /\
   B1 L D rv iv ch Tb Mb wb (Sp.put p (Sp.Cb i key m) T) M (js++[(0,path,Sp.str f c)]) w w' /\ ∀y,Ae f w y c->Ae f w' y c:=by
 subst hL;exact JM hJ hs hf hr hl hp hft
theorem VF{L f:Nat}{p:List Nat}{i:Nat}{rv:Value}{m c xa:Sp.A}{key:Sp.By}{pa px:Option Addr}{pl pc:Nat}{path:List Sp.By}(hL:f+1+p.length=L)
  (hJ:Bm L w D rv jn iv ch Tb Mb wb T M js) (hs:Sp.sub p T=some m) (hf:AV m i key c) (hr:Ca m key) (hl:js.length<=1000000000) (hp:AM w (GA L Tb wb M) (.slice pa pl pc) path) (hft:f<=top) (hx:Ae f w (.pointer px) xa) (hxn:(Sp.fp f xa).Nodup) (hxd:∀k∈Sp.fp f xa,¬ M k/\k ∉ Sp.fp L T/\k≠D/\jn.ownBlock≠some k/\wb.heap.size<=k) :
  Calls Tryz.prog 200 #[.pointer (some ⟨D,0,none⟩),plV (.slice pa pl pc) (Sp.blk m) key i,.pointer px] w fun e w'=>e = .returned (.tuple #[]) /\
   B1 L D rv iv ch Tb Mb wb (Sp.put p (Sp.Bx i key xa m) T) M (js++[(2,path,Sp.str f c)]) w w':=by
 subst hL;exact Mr hJ hs hf hr hl hp hft hx hxn hxd
end
end

section
open Go.RowKit Go.Maps
section
variable{w:World}{D R:Nat}{wp:Option Addr}{jn iv:Value}{ch:Bool}{Tb T a:Sp.A}{Mb M:Nat->Prop}{wb:World}{v xv:Sp.V}{js:List Sp.Opn}{y:Option Addr}{F:Nat->Prop}{d x:Int}{B:Nat}
 {k:Nat} {pa fa:Option Addr} {pl pc fl fc:Nat} {p q:List Sp.By}
theorem AM.at{G:Nat->Prop}{v:Value}{l:List Sp.By}(h:AM w G v l){w':World}(hb:Below w.heap.size w w'):AM w' G v l:=h.move fun k hk hkl=>⟨hb.block k hkl,hk⟩
theorem Tj{G:Nat->Prop}{l:List Sp.By}(h:AM w G (.slice pa pl pc) l):pl=l.length:=by
 rcases h with⟨rfl,a,c,e,_⟩|⟨g,o,cap,e,_⟩
 ·injection e with _ e _
 ·injection e with _ e _
theorem AP.form{r:Except Nat (Sp.V×List Sp.Opn)}{e:Ending}{w':World}(h:AP D R iv ch Tb Mb wb M js w r e w'):∃c:Nat,e = .returned (.int .i64 c)/\Hid (AP D R iv ch Tb Mb wb M js w r (.returned (.int .i64 c)) w'):=by
 cases r with
 | ok vj=>obtain⟨rfl,h⟩:=h;exact⟨0,rfl,rfl,h⟩
 | error c=>obtain⟨rfl,h⟩:=h;exact⟨c,rfl,rfl,h⟩
theorem So(h:JS w D R wp jn iv ch Tb Mb wb T a v M js)(hT:Af w)(hv:Sp.Fit d x B v)(hx:Sp.Fit d x B xv)(hB:B<=900000000)(hl:js.length<=1000000000)(hy:Rep top F w (.pointer y) xv)(hp:AM w (GA (top+1) Tb wb M) (.slice pa pl pc) p)(hok:Sp.PathOk p) :
  Calls Tryz.prog 151 #[.pointer (some ⟨D,0,none⟩),opV k pa pl pc fa fl fc y] w fun e w'=>AP D R iv ch Tb Mb wb M js w (Sp.BU v p xv) e w':=by
 have hM:∀k,M k->k<w.heap.size:=fun k hk=>(h.j.low k hk).1;refine (Sq (Q:=fun c w'=>AP D R iv ch Tb Mb wb M js w (Sp.BU v p xv) (.returned (.int .i64 c)) w') fun w1 hb1=>(KM (h.bel hb1) (hT.bel hb1) hv hx hB hl (hy.bel hb1) (hp.at hb1) hok).mono ?_).mono ?_
 ·rintro e w' he;obtain⟨c,rfl,h2⟩:=he.form;exact⟨c,rfl,AP.below hb1 hM (Aa h2)⟩
 ·rintro e w' ⟨c,rfl,h2⟩;exact h2
theorem Nz(h:JS w D R wp jn iv ch Tb Mb wb T a v M js)(hT:Af w)(hv:Sp.Fit d x B v)(hB:B<=900000000)(hl:js.length<=1000000000)(hp:AM w (GA (top+1) Tb wb M) (.slice pa pl pc) p)(hok:Sp.PathOk p) :
  Calls Tryz.prog 152 #[.pointer (some ⟨D,0,none⟩),opV k pa pl pc fa fl fc y] w fun e w'=>AP D R iv ch Tb Mb wb M js w (Sp.B7 v p) e w':=by
 have hM:∀k,M k->k<w.heap.size:=fun k hk=>(h.j.low k hk).1;have hpl:=Tj hp;by_cases hne:p=[]
 ·subst hne;obtain rfl:pl=0:=hpl;refine Nx.mono ?_;rintro e w' ⟨rfl,hb⟩;exact h.err hb
 ·have hl0:pl≠0:=by
   intro e0;rw[e0] at hpl;exact hne (List.length_eq_zero_iff.1 hpl.symm)
  cases hf:Sp.Ag v p with
  | error c =>
   rw[UJ hne hf];refine (Ny hl0 (Ck hf) (Hc h hT hp hok hf)).mono ?_;rintro e w' ⟨rfl,hb⟩;exact h.err hb
  | ok ev =>
   obtain⟨f,q,m,c,i,key,qa,ql,qc,t1,t2,t3,t4,t5,t6,t7,t8,t9,t10,t11⟩:=I1 h hT hv hB hp hok hf;obtain⟨g,a1,r1,r2⟩:=t9 hne;rw[r2];refine (Oe (Q:=fun w'=>AP D R iv ch Tb Mb wb M js w (.ok (Sp.str top a1,[(0,p,ev)])) (.returned (.int .i64 0)) w') hl0 t11 fun w1 hb1=>(K7 t1 (h.bel hb1).j t2 t3 t7 hl (t8.at hb1) t6).mono ?_).mono ?_
   ·rintro e w' ⟨rfl,he,_⟩;rw[t4] at he;exact⟨rfl,AP.below hb1 hM (JS.ok he r1 rfl)⟩
   ·rintro e w' ⟨rfl,he⟩;exact he
theorem LZ(h:JS w D R wp jn iv ch Tb Mb wb T a v M js)(hT:Af w)(hv:Sp.Fit d x B v)(hx:Sp.Fit d x B xv)(hB:B<=900000000)(hl:js.length<=1000000000)(hy:Rep top F w (.pointer y) xv)(hp:AM w (GA (top+1) Tb wb M) (.slice pa pl pc) p)(hok:Sp.PathOk p) :
  Calls Tryz.prog 153 #[.pointer (some ⟨D,0,none⟩),opV k pa pl pc fa fl fc y] w fun e w'=>AP D R iv ch Tb Mb wb M js w (Sp.CM v p xv) e w':=by
 have hM:∀k,M k->k<w.heap.size:=fun k hk=>(h.j.low k hk).1;cases hf:Sp.Ag v p with
 | error c =>
  rw[UG hf];refine (LY (Ck hf) (Hc h hT hp hok hf)).mono ?_;rintro e w' ⟨rfl,hb⟩;exact h.err hb
 | ok ev =>
  obtain⟨f,q,m,c,i,key,qa,ql,qc,t1,t2,t3,t4,t5,t6,t7,t8,t9,t10,t11⟩:=I1 h hT hv hB hp hok hf;refine (Nw (Q:=fun w'=>AP D R iv ch Tb Mb wb M js w (Sp.CM v p xv) (.returned (.int .i64 0)) w') (Q1:=fun z w1=>∃w0,Below w.heap.size w w0/\Frs w0 xv z w1) t11 (fun w1 hb1=>(Jx (hy.bel hb1) hx (by omega)).mono ?_) (fun z w1 w2 hq hb1 hb2=>?_)).mono ?_
  ·rintro e w' ⟨z,rfl,hq⟩;exact⟨z,rfl,(Aa hq).1,w1,hb1,Aa hq⟩
  ·obtain⟨w0,hb0,hfr⟩:=hq;obtain⟨ax,b1,b2,b2',b3,b4,b5⟩:=Frs.at (h.bel hb0) hfr hx t5 t6;have hbw:=hb1.trans (hb2.mono hb1.size);obtain⟨g,a1,r1,r2⟩:=t10 ax;rw[b2] at r2;rw[r2];refine (VF t1 (h.bel hbw).j t2 t3 t7 hl (t8.at hbw) t6 (b1.bel hb2) b3 b5).mono ?_;rintro e w' ⟨rfl,he⟩;rw[t4] at he;exact⟨rfl,AP.below hbw hM (JS.ok he r1 rfl)⟩
  ·rintro e w' ⟨rfl,he⟩;exact he
theorem Qi(h:JS w D R wp jn iv ch Tb Mb wb T a v M js)(hT:Af w)(hy:Rep top F w (.pointer y) xv)(hp:AM w (GA (top+1) Tb wb M) (.slice pa pl pc) p)(hok:Sp.PathOk p) :
  Calls Tryz.prog 156 #[.pointer (some ⟨D,0,none⟩),opV k pa pl pc fa fl fc y] w fun e w'=>AP D R iv ch Tb Mb wb M js w (Sp.Ix v p xv) e w':=by
 have p1:=hok.len;have p2:=hok.tok;have hvs:=h.t.str;unfold Sp.Ix;cases hf:Sp.Ag v p with
 | error c =>
  have hf2:=hf;rw[<- hvs] at hf2;refine (Qh (wp:=wp) (Ck hf) (fun w1 hb1=>Ek (h.bel hb1).t) (fun w1 hb1=>JD (fun t ht=>by have:=p2 t ht;omega) (by omega) (hT.bel hb1).rng (h.bel hb1).t.sub (hp.at hb1).toks hf2)).mono ?_;rintro e w' ⟨rfl,hb⟩;exact h.err hb
 | ok ev =>
  have hf2:=hf;rw[<- hvs] at hf2;obtain⟨f,q,m,u,e1,e2,e3,e4,e5⟩:=CC h.t.sub hf2;obtain⟨ub,rfl,_⟩:=e3.ptr;have hrep:Rep top (fun _=>True) w (.pointer (some ⟨ub,0,none⟩)) ev:=by
   rw[<- e4,<- (e3.up (g:=top) (by omega)).2.2];exact (e3.up (g:=top) (by omega)).1.rep fun _ _=>trivial
  refine (Sm (wp:=wp) (bo:=veq ev xv) (fun w1 hb1=>Ek (h.bel hb1).t) (fun w1 hb1=>KS (fun t ht=>by have:=p2 t ht;omega) (by omega) (hT.bel hb1).rng (h.bel hb1).t.sub (hp.at hb1).toks hf2 e2 (e3.bel hb1) e5) (fun w1 hb1=>Jz top _ _ w1 _ _ ev xv (hrep.bel hb1) (hy.bel hb1))).mono ?_;rintro e w' ⟨rfl,hb⟩;simp only;by_cases hq:veq ev xv=true
  ·rw[if_pos hq,if_pos hq];exact⟨rfl,wp,jn,T,a,M,by simpa using h.bel hb,(h.j.bel hb).2⟩
  ·rw[if_neg hq,if_neg hq];exact h.err hb
theorem Nn(hv:Sp.Fit d x B v)(h:JS w D R wp jn iv ch Tb Mb wb T a v M js){ev:Sp.V}(hf:Sp.Ag v p = .ok ev):Sp.Fit d x B ev:=by
 have hvs:=h.t.str;rw[<- hvs] at hf;obtain⟨f,q,m,u,e1,e2,e3,e4,e5⟩:=CC h.t.sub hf;obtain⟨n1,n2,n3,n4,n5,n6,n7⟩:=h.node hv e1 e2 e3;have hs:Sp.str top m=ev:=by rw[(e3.up (g:=top) (by omega)).2.2,e4]
 have g1:Sp.gd d x (f+1) 1 (Sp.str (f+1) m):=by
  have h1:=Sp.EU (s:=-(q.length:Int)) n5;rw[show (1:Int)+q.length + -(q.length:Int)=1 by omega] at h1;exact Sp.CK (by omega) h1
 have g2:=Sp.Cj (f:=top) g1 (by have:=hv.dd;have:=EO;omega);rw[e4] at g2 n6;refine⟨g2,hv.dd,?_⟩;have:Sp.sz top ev=Sp.sz (f+1) ev:=by
  rw[e4] at g1;exact Sp.Fb g1 (by omega)
 omega
theorem Qn(h:JS w D R wp jn iv ch Tb Mb wb T a v M js)(hT:Af w)(hv:Sp.Fit d x B v)(hB:B<=900000000)(hl:js.length<=1000000000)(hp:AM w (GA (top+1) Tb wb M) (.slice pa pl pc) p)(hok:Sp.PathOk p)(hq:AM w (GA (top+1) Tb wb M) (.slice fa fl fc) q)(hoq:Sp.PathOk q) :
  Calls Tryz.prog 155 #[.pointer (some ⟨D,0,none⟩),opV k pa pl pc fa fl fc y] w fun e w'=>AP D R iv ch Tb Mb wb M js w (Sp.IA v q p) e w':=by
 have hM:∀k,M k->k<w.heap.size:=fun k hk=>(h.j.low k hk).1;have p1:=hoq.len;have p2:=hoq.tok;have hvs:=h.t.str;unfold Sp.IA;cases hf:Sp.Ag v q with
 | error c =>
  have hf2:=hf;rw[<- hvs] at hf2;refine (Qm (wp:=wp) (Ck hf) (fun w1 hb1=>Ek (h.bel hb1).t) (fun w1 hb1=>JD (fun t ht=>by have:=p2 t ht;omega) (by omega) (hT.bel hb1).rng (h.bel hb1).t.sub (hq.at hb1).toks hf2)).mono ?_;rintro e w' ⟨rfl,hb⟩;exact h.err hb
 | ok ev =>
  have hf2:=hf;rw[<- hvs] at hf2;obtain⟨f,q',m,u,e1,e2,e3,e4,e5⟩:=CC h.t.sub hf2;obtain⟨ub,rfl,_⟩:=e3.ptr;have hrep:Rep top (fun _=>True) w (.pointer (some ⟨ub,0,none⟩)) ev:=by
   rw[<- e4,<- (e3.up (g:=top) (by omega)).2.2];exact (e3.up (g:=top) (by omega)).1.rep fun _ _=>trivial
  have hev:=Nn hv h hf;simp only;refine (Sn (wp:=wp) (Q:=fun c w'=>AP D R iv ch Tb Mb wb M js w (Sp.BU v p ev) (.returned (.int .i64 c)) w') (fun w1 hb1=>Ek (h.bel hb1).t) (fun w1 hb1=>KS (fun t ht=>by have:=p2 t ht;omega) (by omega) (hT.bel hb1).rng (h.bel hb1).t.sub (hq.at hb1).toks hf2 e2 (e3.bel hb1) e5) (fun w1 hb1=>(KM (h.bel hb1) (hT.bel hb1) hv hev hB hl (hrep.bel hb1) (hp.at hb1) hok).mono ?_)).mono ?_
  ·rintro e w' he;obtain⟨c,rfl,h2⟩:=he.form;exact⟨c,rfl,AP.below hb1 hM (Aa h2)⟩
  ·rintro e w' ⟨c,rfl,h2⟩;exact h2
theorem Af.jex{M':Nat->Prop}{w':World}(h:Af w)(hM:∀k,k<NG->M k)(hX:JEx M M' w w'):Af w' :=
 h.below ⟨hX.os,hX.tape,hX.output,hX.size,fun k hk=>(hX.kept k (hM k hk)).2⟩
theorem UI{j:List Sp.Opn}{v1:Sp.V}(hv:Sp.Fit d x B v)(h:JS w D R wp jn iv ch Tb Mb wb T a v M js)(hr:Sp.B7 v q = .ok (v1,j)):Sp.Fit d x B v1:=by
 unfold Sp.B7 at hr;split at hr
 ·cases hr
 ·rename_i s t hs;split at hr
  ·cases hr
  ·rename_i n hn;split at hr
   ·cases hr
   ·rename_i e he;injection hr with hr;injection hr with hr _;subst hr;have hvs:=h.t.str;have hf2:=hn;rw[<- hvs] at hf2;obtain⟨f,q',m,u,e1,e2,e3,e4,e5⟩:=CC h.t.sub hf2;obtain⟨n1,n2,n3,n4,n5,n6,n7⟩:=h.node hv e1 e2 e3;rw[hvs] at e5;rw[Dc e5];rw[e4] at n5 n6 n7;have hg:Sp.gd d x (f+1+q'.length) 1 v:=by rw[e1];exact hv.gd
    have g1:=Sp.Kc hg n7 (Sp.R0 (i:=(Sp.idx t).getD 0) (k:=t) n5);have g2:=Sp.JI (n':=Sp.Eu ((Sp.idx t).getD 0) t n) hg n7;rw[e1] at g1 g2;have g3:=Sp.QY (f:=f) (i:=(Sp.idx t).getD 0) (k:=t) (v:=n);have:=hv.sz;exact⟨g1,hv.dd,by omega⟩
theorem Qk(h:JS w D R wp jn iv ch Tb Mb wb T a v M js)(hT:Af w)(hM0:∀k,k<NG->M k)(hv:Sp.Fit d x B v)(hB:B<=900000000)(hl:js.length<=900000000)(hp:AM w (GA (top+1) Tb wb M) (.slice pa pl pc) p)(hok:Sp.PathOk p)(hq:AM w (GA (top+1) Tb wb M) (.slice fa fl fc) q)(hoq:Sp.PathOk q) :
  Calls Tryz.prog 154 #[.pointer (some ⟨D,0,none⟩),opV k pa pl pc fa fl fc y] w fun e w'=>AP D R iv ch Tb Mb wb M js w (Sp.Iz v q p) e w':=by
 have hM:∀k,M k->k<w.heap.size:=fun k hk=>(h.j.low k hk).1;unfold Sp.Iz;cases hf:Sp.Ag v q with
 | error c =>
  refine (Qj (Ck hf) (Hc h hT hq hoq hf)).mono ?_;rintro e w' ⟨rfl,hb⟩;exact h.err hb
 | ok ev =>
  obtain⟨f,qq,m,c,i,key,qa,ql,qc,t1,t2,t3,t4,t5,t6,t7,t8,t9,t10,t11⟩:=I1 h hT hv hB hq hoq hf;have hEq:∀w1,Below w.heap.size w w1->Calls Tryz.prog 202 #[.slice fa fl fc,.slice pa pl pc] w1 fun e w'=>e = .returned (.bool (q == p))/\Below w1.heap.size w1 w':=fun w1 hb1=>IF (hq.at hb1).toks (hp.at hb1).toks;have hLd:∀w1,Below w.heap.size w w1->Calls Tryz.prog 203 #[.slice pa pl pc,.slice fa fl fc] w1 fun e w'=>e = .returned (.bool (Sp.leads p q))/\Below w1.heap.size w1 w':=fun w1 hb1=>Qx (hp.at hb1).toks (hq.at hb1).toks;simp only;by_cases hqp:q=p
  ·rw[if_pos hqp];have e0:(q == p)=true:=by rw[hqp];simp
   rw[e0] at hEq;refine (Of t11 hEq).mono ?_;rintro e w' ⟨rfl,hb⟩;exact⟨rfl,wp,jn,T,a,M,by simpa using h.bel hb,(h.j.bel hb).2⟩
  ·rw[if_neg hqp];have e0:(q == p)=false:=by rw[beq_eq_false_iff_ne];exact hqp
   rw[e0] at hEq;by_cases hld:Sp.leads p q=true
   ·rw[if_pos hld];rw[hld] at hLd;refine (NA t11 hEq hLd).mono ?_;rintro e w' ⟨rfl,hb⟩;exact h.err hb
   ·rw[if_neg hld];rw[Bool.eq_false_iff.2 hld] at hLd;have hne:q≠[]:=by
     rintro rfl;refine hld ?_;unfold Sp.leads;have:0<p.length:=by
      rcases Nat.eq_zero_or_pos p.length with h0|h0
      ·exact absurd (List.length_eq_zero_iff.1 h0).symm hqp
      ·exact h0
     simp[this]
    obtain⟨g,a1,r1,r2⟩:=t9 hne;rw[r2];simp only;have hfit1:=UI hv h r2;have hfit2:=Nn hv h hf;obtain⟨um,hum⟩:=Ae.at (f:=f+1) (p:=qq) (by rw[t1];exact h.j.tr) t2;obtain⟨a1',a2',a3',a4'⟩:=t3.apart (Sp.BB (f:=f+1) t2 (by rw[t1];exact h.j.nd));obtain⟨yv,hc⟩:=hum.kidAt a4';obtain⟨yb,rfl,_⟩:=hc.ptr;refine (Ql (x:=some ⟨yb,0,none⟩) (Q1:=fun w1=>∃wp' jn' T' a' M',JS w1 D R wp' jn' iv ch Tb Mb wb T' a' (Sp.str top a1) M' (js++[(0,q,ev)])/\JEx M M' w w1/\Ae f w1 (.pointer (some ⟨yb,0,none⟩)) c)
     (Q:=fun cc w'=>AP D R iv ch Tb Mb wb M js w (match Sp.BU (Sp.str top a1) p ev with | .error c=>.error c | .ok (d2,j2)=>.ok (d2,[(0,q,ev)]++j2)) (.returned (.int .i64 cc)) w')
     t11 hEq hLd (fun w1 hb1=>(DX (hum.bel hb1) t3 t7.2).mono ?_) (fun w1 hb1 hop=>?_) (fun w1 hq1=>?_)).mono ?_
    ·rintro e w' ⟨⟨y',rfl,hy'⟩,hb⟩;obtain rfl:=hy'.uniq hc;exact⟨rfl,hb⟩
    ·obtain⟨hG,hE⟩:=h.grow hb1 (fun k=>k=w.heap.size) (fun k hk=>by subst hk;exact⟨Nat.le_refl _,hop.lt⟩);refine (K7 t1 hG.j t2 t3 t7 (by omega) ((t8.at hb1).move fun k hk _=>⟨rfl,Or.inl hk.1,hk.2⟩) t6).mono ?_;rintro e w' ⟨rfl,he,hcc⟩;rw[t4] at he;obtain⟨wp',jn',T',a',M',s1,s2⟩:=JS.done he r1 rfl;exact⟨rfl,(s2.kept _ (Or.inr rfl)).2.trans hop,wp',jn',T',a',M',s1,hE.trans s2,hcc _ (hc.bel hb1)⟩
    ·obtain⟨wp',jn',T',a',M',s1,s2,s3⟩:=hq1;have hrep:Rep top (fun _=>True) w1 (.pointer (some ⟨yb,0,none⟩)) ev:=by
      rw[<- t4,<- (s3.up t6).2.2];exact (s3.up t6).1.rep fun _ _=>trivial
     refine (KM s1 (hT.jex hM0 s2) hfit1 hfit2 hB (by simp;omega) hrep (hp.move fun k hk _=>⟨(s2.kept k hk.1).2,(s2.kept k hk.1).1,hk.2⟩) hok).mono ?_;rintro e w' he;obtain⟨cc,rfl,h2⟩:=he.form;refine⟨cc,rfl,?_⟩;have h2':=Aa h2;cases hr:Sp.BU (Sp.str top a1) p ev with
     | error c' =>
      rw[hr] at h2';obtain⟨e9,wp2,jn2,T2,a2,v2,M2,js2,u1,u2⟩:=h2';exact⟨e9,wp2,jn2,T2,a2,v2,M2,js2,u1,s2.trans u2⟩
     | ok vj =>
      rw[hr] at h2';obtain⟨v2,j2⟩:=vj;obtain⟨e9,wp2,jn2,T2,a2,M2,u1,u2⟩:=h2';rw[List.append_assoc] at u1;exact⟨e9,wp2,jn2,T2,a2,M2,u1,s2.trans u2⟩
    ·rintro e w' ⟨cc,rfl,h2⟩;exact h2
end
end
end Go.Proofs.YtdpomdelmdofmaaGreatDoor
