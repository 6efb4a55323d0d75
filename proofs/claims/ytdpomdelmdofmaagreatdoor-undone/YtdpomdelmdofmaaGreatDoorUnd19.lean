import Derived.Test.YtdpomdelmdofmaaGreatDoorUnd18
import Derived.RangeFuncOwn
namespace Go.Proofs.YtdpomdelmdofmaaGreatDoor
open Go.Proofs.Tryz
section
open Go.RowKit Go.Maps
theorem Kd{f:Nat}{p:List Nat}{w w':World}{v u:Value}{T n n2:Sp.A}{Z:Nat->Prop}(hT:Ae (f+1+p.length) w v T)(hs:Sp.sub p T=some n)(hN:(Sp.fp (f+1+p.length) T).Nodup)(hu:Ae (f+1) w u n)(h:DJ f w w' u n n2 Z)(hZ:∀k,Z k->k<w.heap.size/\k ∉ Sp.fp (f+1+p.length) T) :
  Ae (f+1+p.length) w' v (Sp.put p n2 T)/\(Sp.fp (f+1+p.length) (Sp.put p n2 T)).Nodup/\(∀k∈Sp.fp (f+1+p.length) (Sp.put p n2 T),k∈Sp.fp (f+1+p.length) T\/Z k\/w.heap.size<=k)/\As (fun k=>k∈Sp.fp (f+1+p.length) T) w w':=by
 have hlt:=hT.lt;refine⟨Ae.put hT hs hN (fun k hk1 hk2=>h.kept.block k (hlt k hk1) (fun hk3=>hk2 (Hm hu k hk3))) (fun u2 hu2=>?_),Sp.Rf hs hN h.nd (fun k hk1 hk2=>?_),?_,h.kept.mono fun k hk=>Sp.Dd hs k (Hm hu k hk)⟩
 ·obtain rfl:=hu2.uniq hu;exact h.tr
 ·rcases h.sub k hk1 with h1|h1|h1
  ·exact h1
  ·exact absurd hk2 (hZ k h1).2
  ·have:=hlt k hk2;omega
 ·intro k hk;rcases Sp.Xh hs k hk with h1|h1
  ·exact Or.inl h1
  ·exact (h.sub k h1).imp (Sp.Dd hs k) id
structure BR(L:Nat)(v:Value)(T:Sp.A)(M N:Nat->Prop)(wk w:World):Prop where
 tree:∃T',Sp.er L T'=Sp.er L T/\Ae L w v T'/\(Sp.fp L T').Nodup /\ ∀k∈Sp.fp L T',¬ M k /\ ¬ N k
 held:∀k,M k->w.heap[k]? = wk.heap[k]?
 low:∀k,M k->k<w.heap.size
theorem BR.shift{L:Nat}{v:Value}{T T2:Sp.A}{M N:Nat->Prop}{wk wk2 w:World}(h:BR L v T M N wk w)(hT:Sp.er L T2=Sp.er L T)(hk:∀k,M k->wk2.heap[k]? = wk.heap[k]?):BR L v T2 M N wk2 w:=by
 obtain⟨T',e,h1,h2,h3⟩:=h.tree;exact⟨⟨T',e.trans hT.symm,h1,h2,h3⟩,fun k hm=>(h.held k hm).trans (hk k hm).symm,h.low⟩
def Ve(N:Nat->Prop)(w w':World):Prop:=w'.os=w.os/\w'.tape=w.tape/\w'.output=w.output/\w.heap.size<=w'.heap.size /\ ∀k,N k->w'.heap[k]? = w.heap[k]?
theorem Ia{f:Nat}{p:List Nat}{v:Value}{T0 m0 m1:Sp.A}{M0 M1 N:Nat->Prop}{wk0 wk1 wt w:World}(h0:Ae (f+1+p.length) wt v T0)(hs:Sp.sub p T0=some m0)(hA:BR (f+1+p.length) v (Sp.put p m1 T0) M1 N wk1 w) :
  ∃u n',Sp.er (f+1) n'=Sp.er (f+1) m1/\Ae (f+1) w u n'/\(Sp.fp (f+1) n').Nodup/\(∀k∈Sp.fp (f+1) n',¬ M1 k /\ ¬ N k) /\
   ∀ (n2:Sp.A) (Z:Nat->Prop) (w':World),DJ f w w' u n' n2 Z->Sp.er (f+1) n2=Sp.er (f+1) m0->(∀k,Z k->M1 k /\ ¬ M0 k)->(∀k,M0 k->M1 k/\wk1.heap[k]? = wk0.heap[k]?)->(∀k,N k -> ¬ M1 k/\k<w.heap.size) ->
    BR (f+1+p.length) v T0 M0 N wk0 w'/\Ve N w w':=by
 obtain⟨T',e,h1,h2,h3⟩:=hA.tree;have hsub:Sp.sub p (Sp.put p m1 T0)=some m1:=Sp.Ii m1 hs;have e1:=Sp.EX p (f+1) T';rw[e,Sp.EX p (f+1),hsub] at e1;obtain⟨n',hn',en⟩:∃n',Sp.sub p T'=some n'/\Sp.er (f+1) n'=Sp.er (f+1) m1:=by
  cases hx:Sp.sub p T' with
  | none=>rw[hx] at e1;cases e1
  | some n'=>rw[hx] at e1;exact⟨n',rfl,(Option.some.inj e1).symm⟩
 obtain⟨u,hu⟩:=Ae.at (f:=f+1) h1 hn';refine⟨u,n',en,hu,Sp.BB hn' h2,fun k hk=>h3 k (Sp.Dd hn' k hk),?_⟩;intro n2 Z w' hed e2 hZ hM hN;have hZ':∀k,Z k->k<w.heap.size/\k ∉ Sp.fp (f+1+p.length) T':=fun k hk=>⟨hA.low k (hZ k hk).1,fun hm=>(h3 k hm).1 (hZ k hk).1⟩
 obtain⟨t1,t2,t3,t4⟩:=Kd h1 hn' h2 hu hed hZ';have es0:=Sp.EX p (f+1) T0;rw[hs] at es0;have eT:Sp.er (f+1+p.length) (Sp.put p n2 T')=Sp.er (f+1+p.length) T0:=by
  rw[Sp.BQ p (f+1) n2 hn',e2,e,Sp.BQ p (f+1) m1 hs,Sp.Ku _ _ es0,<- Sp.BQ p (f+1) m0 hs,Ae.put_self h0 hs]
 refine⟨⟨⟨Sp.put p n2 T',eT,t1,t2,fun k hk=>?_⟩,fun k hk=>?_,fun k hk=>Nat.lt_of_lt_of_le (hA.low k (hM k hk).1) t4.size⟩,t4.os,t4.tape,t4.output,t4.size,fun k hk=>t4.block k (hN k hk).2 fun hm=>(h3 k hm).2 hk⟩
 ·rcases t3 k hk with h|h|h
  ·exact⟨fun hm=>(h3 k h).1 (hM k hm).1,(h3 k h).2⟩
  ·exact⟨(hZ k h).2,fun hn=>(hN k hn).1 (hZ k h).1⟩
  ·exact⟨fun hm=>by have:=hA.low k (hM k hm).1;omega,fun hn=>by have:=(hN k hn).2;omega⟩
 ·rw[t4.block k (hA.low k (hM k hk).1) fun hm=>(h3 k hm).1 (hM k hk).1,hA.held k (hM k hk).1,(hM k hk).2]
theorem Db.er{f i q:Nat}{w:World}{u:Value}{n m:Sp.A}{key:Sp.By}(hn:Ae (f+1) w u n)(e:Sp.er (f+1) n=Sp.er (f+1) m)(h:Db m i q key):Db n i q key/\Sp.blk n=Sp.blk m/\Sp.Box n:=by
 rcases h with⟨b,g,al,rfl,h1,h2⟩|⟨b,g,es,rfl,h1,h2⟩
 ·obtain⟨g',al',rfl,e2⟩:=hn.er_arr e;have hl:al'.length=al.length:=by have:=congrArg List.length e2;simpa using this
  exact⟨Or.inl ⟨b,g',al',rfl,by omega,by omega⟩,rfl,Or.inl ⟨b,g',al',rfl⟩⟩
 ·obtain⟨es',rfl,e2⟩:=hn.er_obj e;have hl:es'.length=es.length:=by have:=congrArg List.length e2;simpa using this
  exact⟨Or.inr ⟨b,g,es',rfl,h1,by omega⟩,rfl,Or.inr ⟨b,g,es',rfl⟩⟩
end

section
open Go.RowKit Go.Maps
def AN(w:World)(q:Nat)(pth:Value)(b:Nat)(key:Sp.By)(i:Nat):Prop:=w.heap[q]? = some (.cells #[pth,.pointer (some ⟨b,0,none⟩),.string ⟨key.toArray⟩,.int .i64 i] 185 (0,0))
def F1(w:World)(q:Nat)(x:Option Addr):Prop:=w.heap[q]? = some (.cells #[.pointer x] 80 (0,0))
section
variable{w:World}{q q2 b i:Nat}{pth:Value}{key:Sp.By}{x:Option Addr}{Q:World->Prop}
theorem AN.c0(h:AN w q pth b key i):w.cell? ⟨q,0,none⟩=some pth:=by simp[World.cell?,show w.heap[q]? = _ from h]
theorem AN.c1(h:AN w q pth b key i):w.cell? ⟨q,1,none⟩=some (.pointer (some ⟨b,0,none⟩)):=by simp[World.cell?,show w.heap[q]? = _ from h]
theorem AN.c2(h:AN w q pth b key i):w.cell? ⟨q,2,none⟩=some (.string ⟨key.toArray⟩):=by simp[World.cell?,show w.heap[q]? = _ from h]
theorem AN.c3(h:AN w q pth b key i):w.cell? ⟨q,3,none⟩=some (.int .i64 i):=by simp[World.cell?,show w.heap[q]? = _ from h]
theorem F1.c0(h:F1 w q x):w.cell? ⟨q,0,none⟩=some (.pointer x):=by simp[World.cell?,show w.heap[q]? = _ from h]
def Ent(f:Nat):Prop:=∀args w,(callFunc f args).run Tryz.prog w = .ok (.enter f args) w
theorem Hv{f:FuncId}{fn:Func}{c:Code}(hf:Tryz.prog.funcs[f]? = some fn)(hname:(fn.name == "runtime.NumGoroutine")=false)(hb:fn.body=some c):Ent f:=by
 intro args w;have h1:¬ fn.name = "runtime.NumGoroutine" := by simpa using hname
 simp[callFunc,hf,h1,hb]
theorem Qg:Ent 252:=Hv func252 (by kernel_rfl) rfl
theorem Qf:Ent 248:=Hv func248 (by kernel_rfl) rfl
theorem UA:Ent 251:=Hv func251 (by kernel_rfl) rfl
theorem NF(hq:AN w q pth b key i)(hC:Calls Tryz.prog 246 #[plV pth b key i] w fun e w'=>e = .returned (.tuple #[])/\Q w') :
  Calls Tryz.prog 252 #[.pointer (some ⟨q,0,none⟩)] w fun e w'=>e = .returned (.tuple #[])/\Q w':=by
 have c0:=hq.c0;have c1:=hq.c1;have c2:=hq.c2;have c3:=hq.c3;have HC:=Ab hC;clear hC hq
 go_enter func252,ntmps252
 go_wp2_with (fail);refine (Aa HC).mono ?_
 rintro e w' ⟨rfl,hQ⟩
 go_wp2_with (fail);exact bodyPost_end (results_none rfl _ _ _) rfl ⟨rfl,hQ⟩
theorem NC(hq:AN w q pth b key i)(hx:F1 w q2 x)(hC:Calls Tryz.prog 249 #[plV pth b key i,.pointer x] w fun e w'=>e = .returned (.tuple #[])/\Q w') :
  Calls Tryz.prog 248 #[.pointer (some ⟨q,0,none⟩),.pointer (some ⟨q2,0,none⟩)] w fun e w'=>e = .returned (.tuple #[])/\Q w':=by
 have c0:=hq.c0;have c1:=hq.c1;have c2:=hq.c2;have c3:=hq.c3;have d0:=hx.c0;have HC:=Ab hC;clear hC hq hx
 go_enter func248,ntmps248
 go_wp2_with (fail);refine (Aa HC).mono ?_
 rintro e w' ⟨rfl,hQ⟩
 go_wp2_with (fail);exact bodyPost_end (results_none rfl _ _ _) rfl ⟨rfl,hQ⟩
theorem Qt(hq:AN w q pth b key i)(hx:F1 w q2 x)(hC:Calls Tryz.prog 250 #[plV pth b key i,.pointer x] w fun e w'=>e = .returned (.tuple #[])/\Q w') :
  Calls Tryz.prog 251 #[.pointer (some ⟨q,0,none⟩),.pointer (some ⟨q2,0,none⟩)] w fun e w'=>e = .returned (.tuple #[])/\Q w':=by
 have c0:=hq.c0;have c1:=hq.c1;have c2:=hq.c2;have c3:=hq.c3;have d0:=hx.c0;have HC:=Ab hC;clear hC hq hx
 go_enter func251,ntmps251
 go_wp2_with (fail);refine (Aa HC).mono ?_
 rintro e w' ⟨rfl,hQ⟩
 go_wp2_with (fail);exact bodyPost_end (results_none rfl _ _ _) rfl ⟨rfl,hQ⟩
end
theorem Sp.len_mput{k:Lit}{c:Sp.A}{es:List (Lit×Sp.A)}:(Sp.mput k c es).length<=es.length+1:=by
 have h1:=(Sp.Df k c es).length_eq;have h2:(Sp.mdel k es).length<=es.length:=List.length_filter_le _ _;rw[h1,List.length_cons];omega
def AV(n:Sp.A)(i:Nat)(key:Sp.By)(c:Sp.A):Prop:=(∃b g al,n=Sp.nd b g (.slice al [])/\al[i]? = some c) \/ ∃b g es,n=Sp.nd b g (.map es)/\(Lit.string key,c)∈es/\Sp.Bk es
def G0(n:Sp.A)(i:Nat)(key:Sp.By):Prop:=(∃b g al,n=Sp.nd b g (.slice al [])/\i<=al.length) \/ ∃b g es,n=Sp.nd b g (.map es) /\ ∀p∈es,p.1≠Lit.string key
theorem G0.back{n c:Sp.A}{i:Nat}{key:Sp.By}(h:G0 n i key):Sp.Cb i key (Sp.BS i key c n)=n:=by
 rcases h with⟨b,g,al,rfl,h⟩|⟨b,g,es,rfl,h⟩
 ·unfold Sp.Cb Sp.BS;rw[Sp.C0,Sp.C0,Sp.Ls c h]
 ·unfold Sp.Cb Sp.BS;rw[Sp.Cy,Sp.Cy,Sp.Lq,Sp.RI h]
theorem AV.ins{n c:Sp.A}{i:Nat}{key:Sp.By}(h:AV n i key c):Sp.BS i key c (Sp.Cb i key n)=n:=by
 rcases h with⟨b,g,al,rfl,h⟩|⟨b,g,es,rfl,h,hs⟩
 ·unfold Sp.Cb Sp.BS;rw[Sp.C0,Sp.C0,Sp.FQ h]
 ·unfold Sp.Cb Sp.BS;rw[Sp.Cy,Sp.Cy,Sp.Hp,Sp.FO hs h]
theorem AV.set{n c d:Sp.A}{i:Nat}{key:Sp.By}(h:AV n i key c):Sp.Bx i key c (Sp.Bx i key d n)=n:=by
 rcases h with⟨b,g,al,rfl,h⟩|⟨b,g,es,rfl,h,hs⟩
 ·unfold Sp.Bx;rw[Sp.C0,Sp.C0,Sp.RJ h]
 ·unfold Sp.Bx;rw[Sp.Cy,Sp.Cy,Sp.RB,Sp.FO hs h]
theorem G0.box{n:Sp.A}{i:Nat}{key:Sp.By}(h:G0 n i key):Sp.Box n:=h.imp (fun ⟨b,g,al,e,_⟩=>⟨b,g,al,e⟩) (fun ⟨b,g,es,e,_⟩=>⟨b,g,es,e⟩)
theorem AV.box{n c:Sp.A}{i:Nat}{key:Sp.By}(h:AV n i key c):Sp.Box n:=h.imp (fun ⟨b,g,al,e,_⟩=>⟨b,g,al,e⟩) (fun ⟨b,g,es,e,_⟩=>⟨b,g,es,e⟩)
theorem Sp.box_ed{F:List Sp.A->List Sp.A}{G:List (Lit×Sp.A)->List (Lit×Sp.A)}{n:Sp.A}(h:Sp.Box n):Sp.Box (Sp.ed F G n)/\Sp.blk (Sp.ed F G n)=Sp.blk n:=by
 rcases h with⟨b,g,al,rfl⟩|⟨b,g,es,rfl⟩
 ·exact⟨Or.inl ⟨b,g,F al,rfl⟩,rfl⟩
 ·exact⟨Or.inr ⟨b,g,G es,rfl⟩,rfl⟩
def Ca(n:Sp.A)(key:Sp.By):Prop:=(Sp.AL n).length+1<=1000000000000/\key.length<=1048576
theorem G0.at{n c:Sp.A}{i:Nat}{key:Sp.By}(h:G0 n i key)(hr:Ca n key):Db n i 1 key/\Db (Sp.BS i key c n) i 0 key:=by
 obtain⟨h1,h2⟩:=hr;rcases h with⟨b,g,al,rfl,h⟩|⟨b,g,es,rfl,h⟩
 ·rw[Sp.B2] at h1;have:=Sp.GH c h;exact⟨Or.inl ⟨b,g,al,rfl,by omega,by omega⟩,Or.inl ⟨b,g,Sp.lins i c al,rfl,by omega,by omega⟩⟩
 ·rw[Sp.BI,List.length_map] at h1;have:=Sp.len_mput (k:=.string key) (c:=c) (es:=es);exact⟨Or.inr ⟨b,g,es,rfl,h2,by omega⟩,Or.inr ⟨b,g,Sp.mput (.string key) c es,rfl,h2,by omega⟩⟩
theorem AV.at{n c:Sp.A}{i:Nat}{key:Sp.By}(h:AV n i key c)(hr:Ca n key):Db n i 0 key/\Db (Sp.Cb i key n) i 1 key /\ ∀d,Db (Sp.Bx i key d n) i 0 key:=by
 obtain⟨h1,h2⟩:=hr;rcases h with⟨b,g,al,rfl,h⟩|⟨b,g,es,rfl,h,_⟩
 ·rw[Sp.B2] at h1;obtain⟨hi,_⟩:=List.getElem?_eq_some_iff.1 h;have:=Sp.Jk hi;exact⟨Or.inl ⟨b,g,al,rfl,by omega,by omega⟩,Or.inl ⟨b,g,Sp.ldel i al,rfl,by omega,by omega⟩,fun d=>Or.inl ⟨b,g,al.set i d,rfl,by simpa using hi,by simp;omega⟩⟩
 ·rw[Sp.BI,List.length_map] at h1;have h3:(Sp.mdel (.string key) es).length<=es.length:=List.length_filter_le _ _;exact⟨Or.inr ⟨b,g,es,rfl,h2,by omega⟩,Or.inr ⟨b,g,Sp.mdel (.string key) es,rfl,h2,by omega⟩,fun d=>Or.inr ⟨b,g,Sp.mput (.string key) d es,rfl,h2,by have:=Sp.len_mput (k:=.string key) (c:=d) (es:=es);omega⟩⟩
def EG(L:Nat)(v:Value)(fn:Nat)(cs:Array Value)(T0 T1:Sp.A)(M0 M1:Nat->Prop)(wk0 wk1:World):Prop :=
 ∀ (N:Nat->Prop) (w:World),(∀k,N k -> ¬ M1 k/\k<w.heap.size)->BR L v T1 M1 N wk1 w->Calls Tryz.prog fn cs w fun e w'=>e = .returned (.tuple #[])/\BR L v T0 M0 N wk0 w'/\Ve N w w'
section
variable{f:Nat}{p:List Nat}{v:Value}{T0 m0 c x:Sp.A}{M0 M1:Nat->Prop}{wk0 wk1 wt:World}{q q2 i:Nat}{pth:Value}{key:Sp.By}{pc:Option Addr}
theorem On(h0:Ae (f+1+p.length) wt v T0)(hs:Sp.sub p T0=some m0)(hf:G0 m0 i key)(hr:Ca m0 key)(hq:AN wk1 q pth (Sp.blk m0) key i)(hqM:M1 q)(hM:∀k,M0 k->M1 k/\wk1.heap[k]? = wk0.heap[k]?) :
  EG (f+1+p.length) v 252 #[.pointer (some ⟨q,0,none⟩)] T0 (Sp.put p (Sp.BS i key c m0) T0) M0 M1 wk0 wk1:=by
 intro N w hN hA;obtain⟨u,n',en,hu,hnd,_,hed⟩:=Ia h0 hs hA;obtain⟨b1,b2,b3⟩:=Db.er hu en (hf.at hr).2;rw[show Sp.blk (Sp.BS i key c m0)=Sp.blk m0 from (Sp.box_ed hf.box).2] at b2;refine NF (b:=Sp.blk n') (by rw[b2];exact (hA.held q hqM).trans hq) ((IG hu hnd b1).mono ?_);rintro e w' ⟨rfl,n2,⟨e2,_⟩,hE⟩;refine⟨rfl,hed n2 _ w' hE ?_ (fun _ h=>h.elim) hM hN⟩;rw[e2,Sp.Se b3,en,<- Sp.Se (show Sp.Box (Sp.BS i key c m0) from (Sp.box_ed hf.box).1),hf.back]
theorem Ol(h0:Ae (f+1+p.length) wt v T0)(hs:Sp.sub p T0=some m0)(hf:AV m0 i key c)(hr:Ca m0 key)(hq:AN wk1 q pth (Sp.blk m0) key i)(hqM:M1 q)(hx:F1 wk1 q2 pc)(hxM:M1 q2)(hc:Ae f wk1 (.pointer pc) c)(hcn:(Sp.fp f c).Nodup)(hcM:∀k∈Sp.fp f c,M1 k /\ ¬ M0 k)(hM:∀k,M0 k->M1 k/\wk1.heap[k]? = wk0.heap[k]?) :
  EG (f+1+p.length) v 248 #[.pointer (some ⟨q,0,none⟩),.pointer (some ⟨q2,0,none⟩)] T0 (Sp.put p (Sp.Cb i key m0) T0) M0 M1 wk0 wk1:=by
 intro N w hN hA;obtain⟨u,n',en,hu,hnd,hfp,hed⟩:=Ia h0 hs hA;obtain⟨b1,b2,b3⟩:=Db.er hu en (hf.at hr).2.1;rw[show Sp.blk (Sp.Cb i key m0)=Sp.blk m0 from (Sp.box_ed hf.box).2] at b2;have hcw:Ae f w (.pointer pc) c:=hc.move fun k hk=>hA.held k (hcM k hk).1;refine NC (b:=Sp.blk n') (by rw[b2];exact (hA.held q hqM).trans hq) ((hA.held q2 hxM).trans hx) ((IP hu hnd b1 hcw hcn (fun k hk hm=>(hfp k hm).1 (hcM k hk).1)).mono ?_);rintro e w' ⟨rfl,n2,⟨e2,_⟩,hE⟩;refine⟨rfl,hed n2 _ w' hE ?_ hcM hM hN⟩;rw[e2,Sp.Sg b3,en,<- Sp.Sg (show Sp.Box (Sp.Cb i key m0) from (Sp.box_ed hf.box).1),hf.ins]
theorem SP(h0:Ae (f+1+p.length) wt v T0)(hs:Sp.sub p T0=some m0)(hf:AV m0 i key c)(hr:Ca m0 key)(hq:AN wk1 q pth (Sp.blk m0) key i)(hqM:M1 q)(hx:F1 wk1 q2 pc)(hxM:M1 q2)(hc:Ae f wk1 (.pointer pc) c)(hcn:(Sp.fp f c).Nodup)(hcM:∀k∈Sp.fp f c,M1 k /\ ¬ M0 k)(hM:∀k,M0 k->M1 k/\wk1.heap[k]? = wk0.heap[k]?) :
  EG (f+1+p.length) v 251 #[.pointer (some ⟨q,0,none⟩),.pointer (some ⟨q2,0,none⟩)] T0 (Sp.put p (Sp.Bx i key x m0) T0) M0 M1 wk0 wk1:=by
 intro N w hN hA;obtain⟨u,n',en,hu,hnd,hfp,hed⟩:=Ia h0 hs hA;obtain⟨b1,b2,b3⟩:=Db.er hu en ((hf.at hr).2.2 x);rw[show Sp.blk (Sp.Bx i key x m0)=Sp.blk m0 from (Sp.box_ed hf.box).2] at b2;have hcw:Ae f w (.pointer pc) c:=hc.move fun k hk=>hA.held k (hcM k hk).1;refine Qt (b:=Sp.blk n') (by rw[b2];exact (hA.held q hqM).trans hq) ((hA.held q2 hxM).trans hx) ((MB hu hnd b1 hcw hcn (fun k hk hm=>(hfp k hm).1 (hcM k hk).1)).mono ?_);rintro e w' ⟨rfl,n2,⟨e2,_⟩,hE⟩;refine⟨rfl,hed n2 _ w' hE ?_ hcM hM hN⟩;rw[e2,Sp.Sb b3,en,<- Sp.Sb (show Sp.Box (Sp.Bx i key x m0) from (Sp.box_ed hf.box).1),hf.set]
end
end

section
set_option maxRecDepth 100000
set_option maxHeartbeats 4000000
open Go.RowKit Go.Maps
abbrev Clo:=Nat×Array Value
def FC(c:Clo):Value:=.func (.func c.1) #[] c.2
theorem UV:(Tryz.prog.info? 230).map (fun i=>(i.zero.map (fun z=>z.cells.size),i.size,i.bytes))=some (some 5,5,72):=by kernel_rfl
theorem SN:∃i z,Tryz.prog.info? 230=some i/\i.zero=some z/\z.cells.size=5/\i.size=5/\i.bytes=72:=by
 obtain⟨i,hi,h⟩:=Option.map_eq_some_iff.1 UV;simp only[Prod.mk.injEq] at h;obtain⟨z,hz,h1⟩:=Option.map_eq_some_iff.1 h.1;exact⟨i,z,hi,hz,h1,h.2.1,h.2.2⟩
def E5(D:Nat)(rv jn iv:Value)(ch:Bool)(n:Nat)(xs new:List Value)(w:World)(e:Ending)(w':World):Prop :=
 e = .returned (.tuple #[]) /\ ∃g cap,DB w' D rv (.slice (some ⟨g,0,none⟩) (n+1) cap) ch iv/\w'.ownsRow 0 230 5 (.slice (some ⟨g,0,none⟩) (n+1) cap) (n+1) (xs++new) /\
  (jn.ownBlock=some g\/w.heap.size<=g)/\As (fun k=>k=D\/jn.ownBlock=some k) w w'
theorem DB.set1{w:World}{D:Nat}{rv jn iv:Value}{ch:Bool}(h:DB w D rv jn ch iv)(v:Value):DB (w.setCell ⟨D,1,none⟩ v) D rv v ch iv:=by
 simp only[DB,World.setCell,Array.getElem?_modify];rw[if_pos trivial,show w.heap[D]? = _ from h];rfl
theorem E5.of{w wa w3:World}{D n g cap:Nat}{rv jn iv:Value}{ch:Bool}{xs new:List Value}{o:Obj}(hB:Below w.heap.size w wa)(hA:DB wa D rv jn ch iv)(hj:jn.ownBlock≠some D)(ho:w3.ownsRow 0 230 5 (.slice (some ⟨g,0,none⟩) (n+1) cap) (n+1) (xs++new))(hg:(wa.alloc o).drew.grownBy w3 jn.ownBlock)(hat:jn.ownBlock=some g\/g=wa.heap.size+1) :
  E5 D rv jn iv ch n xs new w (.returned (.tuple #[])) (w3.setCell ⟨D,1,none⟩ (.slice (some ⟨g,0,none⟩) (n+1) cap)):=by
 have hs:(wa.alloc o).drew.heap.size=wa.heap.size+1:=by simp
 have hDl:=hA.lt;have hold:∀k,k<wa.heap.size->jn.ownBlock≠some k->w3.heap[k]? = wa.heap[k]?:=fun k hk hne=>(hg.block k (by omega) (fun e=>hne e.symm)).trans (Below.heap_alloc wa o k hk);have hD3:DB w3 D rv jn ch iv:=hA.kept (hold D hDl hj);have hgD:g≠D:=fun e=>by
  rcases hat with h|h
  ·exact hj (by rw[h,e])
  ·omega
 have hsz:=hB.size;refine⟨rfl,g,cap,hD3.set1 _,BG ho fun k hk2=>?_,hat.imp id (fun h=>by omega),?_⟩
 ·simp[Value.ownBlock] at hk2;exact Below.heap_setCell _ _ _ _ (by show k≠D;omega)
 ·have h3:As (fun k=>k=D\/jn.ownBlock=some k) w wa:=As.of_below hB;have h4:As (fun k=>k=D\/jn.ownBlock=some k) w w3:=h3.trans (F':=fun k=>jn.ownBlock=some k) ⟨hg.os,hg.tape,hg.output,by have:=hg.size;omega,fun k hk2 hne=>hold k hk2 hne⟩ fun k _ h=>Or.inr h;exact h4.setCell (p:=⟨D,1,none⟩) (Or.inl (Or.inl rfl)) _
theorem Jw{w:World}{D:Nat}{rv jn iv:Value}{ch:Bool}{c:Clo}{k:Int}{pa x:Option Addr}{pl pc n:Nat}{xs:List Value}(hD:DB w D rv jn ch iv)(hj:w.ownsRow 0 230 5 jn n xs)(hn:n<=1000000000)(hjD:jn.ownBlock≠some D) :
  Calls Tryz.prog 247 #[.pointer (some ⟨D,0,none⟩),FC c,.agg #[.int .i64 k,.slice pa pl pc,.slice none 0 0,.pointer x]] w (E5 D rv jn iv ch n xs [FC c,.int .i64 k,.slice pa pl pc,.slice none 0 0,.pointer x] w):=by
 obtain⟨i0,z0,hi0,hz0,hz1,hz2,hz3⟩:=SN;have hDl:=hD.lt;have HD:=Ab hD;have HJ:=Ab hj;have HJD:=Ab hjD;obtain⟨cf,cc⟩:=c;unfold FC;clear hD hj hjD
 go_enter func247,ntmps247
 go_wp2_with (fail);have hbx:=heap_alloc_new w (.cells #[.int .i64 k,.slice pa pl pc,.slice none 0 0,.pointer x] 178)
 have hba:=(Below.refl w.heap.size w).alloc (Nat.le_refl _) (.cells #[.int .i64 k,.slice pa pl pc,.slice none 0 0,.pointer x] 178);generalize w.alloc (.cells #[.int .i64 k,.slice pa pl pc,.slice none 0 0,.pointer x] 178)=wa at *;have hDa:=(Aa HD).kept (hba.block D hDl);have d1:=hDa.c1;have b0:wa.cell? ⟨w.heap.size,0,none⟩=some (.int .i64 k):=by simp[World.cell?,hbx]
 have b1:wa.cell? ⟨w.heap.size,1,none⟩=some (.slice pa pl pc):=by simp[World.cell?,hbx]
 have b2:wa.cell? ⟨w.heap.size,2,none⟩=some (.slice none 0 0):=by simp[World.cell?,hbx]
 have b3:wa.cell? ⟨w.heap.size,3,none⟩=some (.pointer x):=by simp[World.cell?,hbx]
 have hoa:=BG (w':=wa) (Aa HJ) fun g hg=>hba.block g (BP (Aa HJ) g hg).1;have hDal:D<wa.heap.size:=hDa.lt;have z1:∀o,(wa.alloc o).frozen? ⟨D,1,none⟩=false:=fun o=>by rw[World.frozen?_of_block (w:=wa) (Below.heap_alloc wa o D hDal)];simp[World.frozen?,show wa.heap[D]? = _ from hDa]
 have y1:∀o,(wa.alloc o).cell? ⟨D,1,none⟩=some jn:=fun o=>by rw[World.cell?_of_block (w:=wa) (Below.heap_alloc wa o D hDal)];exact d1
 have nD:some D≠jn.ownBlock:=fun e=>Aa HJD e.symm;have HB:=Ab hba;have HA:=Ab hDa;clear hba hDa;have hwa:w.heap.size<wa.heap.size:=(Array.getElem?_eq_some_iff.1 hbx).1;clear hbx
 go_region_law ((refine step_append_lies _ (by rfl) _ _ _ (by rfl) 0 230 i0 z0 5 72 underlying112 hi0 hz0 hz2 hz3 hz1 (by decide) jn n xs (by rfl) ((hoa.alloc _).drew) ⟨wa.heap.size,0,none⟩ 1 1 [.func (.func cf) #[] cc,.int .i64 k,.slice pa pl pc,.slice none 0 0,.pointer x] (by rfl) (by rfl) (World.news_of_block (cs:=#[.func (.func cf) #[] cc,.int .i64 k,.slice pa pl pc,.slice none 0 0,.pointer x]) (t:=230) (fr:=(0,0)) (heap_alloc_new wa _)) (by simp[Value.oneCell']) (by decide) (by unfold maxLen;omega) (by omega) (Nat.zero_le _) (wa.heap.size+1) (by simp) ?_;intro g cap w3 hown3 hgrow hat hlt;have zz:w3.frozen? ⟨D,1,none⟩=false:=(hgrow.frozen_far ⟨D,1,none⟩ (by simp;omega) nD).trans (z1 _);have yy:w3.cell? ⟨D,1,none⟩=some jn:=(hgrow.cell_far ⟨D,1,none⟩ (by simp;omega) nD).trans (y1 _)))
 all_goals exact bodyPost_end (results_none rfl _ _ _) rfl (E5.of (Aa HB) (Aa HA) (Aa HJD) hown3 hgrow hat)
end

section
open Go.RowKit Go.Maps
abbrev plW(w:World)(pa:Option Addr)(pl pc b:Nat)(key:Sp.By)(i:Nat):World:=w.alloc (.cells #[.slice pa pl pc,.pointer (some ⟨b,0,none⟩),.string ⟨key.toArray⟩,.int .i64 i] 185)
abbrev xW(w:World)(y:Option Addr):World:=w.alloc (.cells #[.pointer y] 80)
section
variable{w:World}{D b i n:Nat}{rv jn iv:Value}{ch:Bool}{key:Sp.By}{pa x y:Option Addr}{pl pc:Nat}{xs:List Value}
theorem Ok{Q:World->Prop}(hn:n<=1000000000)(hjD:jn.ownBlock≠some D)
  (hC:Calls Tryz.prog 249 #[plV (.slice pa pl pc) b key i,.pointer x] (plW w pa pl pc b key i) fun e w'=>e = .returned (.tuple #[])/\Q w')
  (hQ:∀w2,Q w2->AN w2 w.heap.size (.slice pa pl pc) b key i/\DB w2 D rv jn ch iv/\w2.ownsRow 0 230 5 jn n xs) :
  Calls Tryz.prog 205 #[.pointer (some ⟨D,0,none⟩),plV (.slice pa pl pc) b key i,.pointer x] w fun e w3 =>
   ∃w2,Q w2/\E5 D rv jn iv ch n xs [FC (252,#[.pointer (some ⟨w.heap.size,0,none⟩)]),.int .i64 1,.slice pa pl pc,.slice none 0 0,.pointer none] w2 e w3:=by
 have HC:=Ab hC;have HQ:=Ab hQ;have HJD:=Ab hjD;have hbx:=heap_alloc_new w (.cells #[.slice pa pl pc,.pointer (some ⟨b,0,none⟩),.string ⟨key.toArray⟩,.int .i64 i] 185);have HP:=Ab (show AN (plW w pa pl pc b key i) w.heap.size (.slice pa pl pc) b key i from hbx);clear hC hQ hjD hbx
 go_enter func205,ntmps205
 go_wp2_with (fail);refine (Aa HC).mono ?_
 rintro e w2 ⟨rfl,hq⟩;obtain⟨g1,g2,g3⟩:=Aa HQ w2 hq;have e0:=g1.c0;have G2:=Ab g2;have G3:=Ab g3;have HQ2:=Ab hq;clear g1 g2 g3 hq
 go_wp2_with (fail);refine (Jw (c:=(252,#[.pointer (some ⟨w.heap.size,0,none⟩)])) (Aa G2) (Aa G3) hn (Aa HJD)).mono ?_
 intro e w3 hL;obtain⟨rfl,hL2⟩:=id hL;have HL:=Ab hL;clear hL hL2
 go_wp2_with (fail);exact bodyPost_end (results_none rfl _ _ _) rfl ⟨w2,Aa HQ2,Aa HL⟩
theorem Og{Q:World->World->Prop}(hn:n<=1000000000)(hjD:jn.ownBlock≠some D)
  (hG:Calls Tryz.prog 159 #[plV (.slice pa pl pc) b key i] (plW w pa pl pc b key i) fun e w'=>e = .returned (.pointer y)/\Below (w.heap.size+1) (plW w pa pl pc b key i) w')
  (hC:∀w2,Below (w.heap.size+1) (plW w pa pl pc b key i) w2->Calls Tryz.prog 246 #[plV (.slice pa pl pc) b key i] (xW w2 y) fun e w'=>e = .returned (.tuple #[])/\Q w2 w')
  (hQ:∀w2 w3,Below (w.heap.size+1) (plW w pa pl pc b key i) w2->Q w2 w3->AN w3 w.heap.size (.slice pa pl pc) b key i/\F1 w3 w2.heap.size y/\DB w3 D rv jn ch iv/\w3.ownsRow 0 230 5 jn n xs) :
  Calls Tryz.prog 199 #[.pointer (some ⟨D,0,none⟩),plV (.slice pa pl pc) b key i] w fun e w4 =>
   ∃w2 w3,Below (w.heap.size+1) (plW w pa pl pc b key i) w2/\Q w2 w3/\E5 D rv jn iv ch n xs [FC (248,#[.pointer (some ⟨w.heap.size,0,none⟩),.pointer (some ⟨w2.heap.size,0,none⟩)]),.int .i64 0,.slice pa pl pc,.slice none 0 0,.pointer y] w3 e w4:=by
 have HG:=Ab hG;have HC:=Ab hC;have HQ:=Ab hQ;have HJD:=Ab hjD;have hbx:=heap_alloc_new w (.cells #[.slice pa pl pc,.pointer (some ⟨b,0,none⟩),.string ⟨key.toArray⟩,.int .i64 i] 185);have HP:=Ab (show AN (plW w pa pl pc b key i) w.heap.size (.slice pa pl pc) b key i from hbx);clear hG hC hQ hjD hbx
 go_enter func199,ntmps199
 go_wp2_with (fail);refine (Aa HG).mono ?_
 rintro e w2 ⟨rfl,hb⟩;have hp2:AN w2 w.heap.size (.slice pa pl pc) b key i:=(hb.block _ (by omega)).trans (Aa HP);have hlt:w.heap.size<w2.heap.size:=(Array.getElem?_eq_some_iff.1 hp2).1;have hp3:AN (xW w2 y) w.heap.size (.slice pa pl pc) b key i:=(Below.heap_alloc w2 _ _ hlt).trans hp2;have e0:=hp3.c0;have e1:=hp3.c1;have e2:=hp3.c2;have e3:=hp3.c3;have HB:=Ab hb;clear hb hp2 hp3
 go_wp2_with (fail);refine (Aa HC w2 (Aa HB)).mono ?_
 rintro e w3 ⟨rfl,hq⟩;obtain⟨g0,g1,g2,g3⟩:=Aa HQ w2 w3 (Aa HB) hq;clear e0 e1 e2 e3;have e0:=g0.c0;have e4:=g1.c0;have G2:=Ab g2;have G3:=Ab g3;have HQ2:=Ab hq;clear g0 g1 g2 g3 hq
 go_wp2_with (fail);refine (Jw (c:=(248,#[.pointer (some ⟨w.heap.size,0,none⟩),.pointer (some ⟨w2.heap.size,0,none⟩)])) (Aa G2) (Aa G3) hn (Aa HJD)).mono ?_
 intro e w4 hL;obtain⟨rfl,hL2⟩:=id hL;have HL:=Ab hL;clear hL hL2
 go_wp2_with (fail);exact bodyPost_end (results_none rfl _ _ _) rfl ⟨w2,w3,Aa HB,Aa HQ2,Aa HL⟩
theorem SA{Q:World->World->Prop}(hn:n<=1000000000)(hjD:jn.ownBlock≠some D)
  (hG:Calls Tryz.prog 159 #[plV (.slice pa pl pc) b key i] (plW w pa pl pc b key i) fun e w'=>e = .returned (.pointer y)/\Below (w.heap.size+1) (plW w pa pl pc b key i) w')
  (hC:∀w2,Below (w.heap.size+1) (plW w pa pl pc b key i) w2->Calls Tryz.prog 250 #[plV (.slice pa pl pc) b key i,.pointer x] (xW w2 y) fun e w'=>e = .returned (.tuple #[])/\Q w2 w')
  (hQ:∀w2 w3,Below (w.heap.size+1) (plW w pa pl pc b key i) w2->Q w2 w3->AN w3 w.heap.size (.slice pa pl pc) b key i/\F1 w3 w2.heap.size y/\DB w3 D rv jn ch iv/\w3.ownsRow 0 230 5 jn n xs) :
  Calls Tryz.prog 200 #[.pointer (some ⟨D,0,none⟩),plV (.slice pa pl pc) b key i,.pointer x] w fun e w4 =>
   ∃w2 w3,Below (w.heap.size+1) (plW w pa pl pc b key i) w2/\Q w2 w3/\E5 D rv jn iv ch n xs [FC (251,#[.pointer (some ⟨w.heap.size,0,none⟩),.pointer (some ⟨w2.heap.size,0,none⟩)]),.int .i64 2,.slice pa pl pc,.slice none 0 0,.pointer y] w3 e w4:=by
 have HG:=Ab hG;have HC:=Ab hC;have HQ:=Ab hQ;have HJD:=Ab hjD;have hbx:=heap_alloc_new w (.cells #[.slice pa pl pc,.pointer (some ⟨b,0,none⟩),.string ⟨key.toArray⟩,.int .i64 i] 185);have HP:=Ab (show AN (plW w pa pl pc b key i) w.heap.size (.slice pa pl pc) b key i from hbx);clear hG hC hQ hjD hbx
 go_enter func200,ntmps200
 go_wp2_with (fail);refine (Aa HG).mono ?_
 rintro e w2 ⟨rfl,hb⟩;have hp2:AN w2 w.heap.size (.slice pa pl pc) b key i:=(hb.block _ (by omega)).trans (Aa HP);have hlt:w.heap.size<w2.heap.size:=(Array.getElem?_eq_some_iff.1 hp2).1;have hp3:AN (xW w2 y) w.heap.size (.slice pa pl pc) b key i:=(Below.heap_alloc w2 _ _ hlt).trans hp2;have e0:=hp3.c0;have e1:=hp3.c1;have e2:=hp3.c2;have e3:=hp3.c3;have HB:=Ab hb;clear hb hp2 hp3
 go_wp2_with (fail);refine (Aa HC w2 (Aa HB)).mono ?_
 rintro e w3 ⟨rfl,hq⟩;obtain⟨g0,g1,g2,g3⟩:=Aa HQ w2 w3 (Aa HB) hq;clear e0 e1 e2 e3;have e0:=g0.c0;have e4:=g1.c0;have G2:=Ab g2;have G3:=Ab g3;have HQ2:=Ab hq;clear g0 g1 g2 g3 hq
 go_wp2_with (fail);refine (Jw (c:=(251,#[.pointer (some ⟨w.heap.size,0,none⟩),.pointer (some ⟨w2.heap.size,0,none⟩)])) (Aa G2) (Aa G3) hn (Aa HJD)).mono ?_
 intro e w4 hL;obtain⟨rfl,hL2⟩:=id hL;have HL:=Ab hL;clear hL hL2
 go_wp2_with (fail);exact bodyPost_end (results_none rfl _ _ _) rfl ⟨w2,w3,Aa HB,Aa HQ2,Aa HL⟩
end
end

section
open Go.RowKit Go.Maps
namespace Sp
def mps:Nat->A->List Nat
 | 0,_=>[]
 | f+1,a=>match a with
  | .agg [.lit (.int _ _),.lit (.int _ g),x]=>(match x with
   | .slice al _=>al.flatMap (mps f)
   | .map es=>g.toNat::es.flatMap (fun p=>mps f p.2)
   | _=>[])
  | _=>[]
theorem Wh(f b g:Nat)(al:List A):mps (f+1) (nd b g (.slice al []))=al.flatMap (mps f):=rfl
theorem Wg(f b g:Nat)(es:List (Lit×A)):mps (f+1) (nd b g (.map es))=g::es.flatMap (fun p=>mps f p.2):=rfl
end Sp
theorem Ae.maps{w:World}:∀ {f:Nat} {v:Value} {a:Sp.A},Ae f w v a->(∀k∈Sp.mps f a,k∈Sp.fp f a) /\ ∀k∈Sp.fp f a,k∈Sp.mps f a \/ ∃o,w.heap[k]? = some o/\o.isCells=true
 | 0,_,_,h=>h.elim
 | f+1,v,a,h=>by
  obtain⟨b,g,x,rfl,hv,h⟩:=h;rcases h with⟨j,_,_,rfl,h⟩|⟨n,_,rfl,h,_⟩|⟨s,_,rfl,h⟩|⟨al,sl,ps,rfl,h,ho,hs,ha⟩|⟨es,n,D,rfl,h,ho,hp⟩
  ·refine⟨fun k hk=>(by cases hk),fun k hk=>Or.inr ?_⟩;rw[Sp.EB] at hk;obtain rfl:k=b:=by simpa using hk
   exact⟨_,h,rfl⟩
  ·refine⟨fun k hk=>(by cases hk),fun k hk=>Or.inr ?_⟩;rw[Sp.Fw] at hk;obtain rfl:k=b:=by simpa using hk
   exact⟨_,h,rfl⟩
  ·refine⟨fun k hk=>(by cases hk),fun k hk=>Or.inr ?_⟩;rw[Sp.Fv] at hk;obtain rfl:k=b:=by simpa using hk
   exact⟨_,h,rfl⟩
  ·rw[Sp.AQ,Sp.Wh];refine⟨fun k hk=>?_,fun k hk=>?_⟩
   ·obtain⟨c,hc,hkc⟩:=List.mem_flatMap.1 hk;obtain⟨u,hu⟩:=ha.right hc;exact List.mem_cons_of_mem _ (List.mem_append_right _ (List.mem_flatMap.2 ⟨c,hc,(Ae.maps hu).1 k hkc⟩))
   ·rcases List.mem_cons.1 hk with rfl|hk
    ·exact Or.inr ⟨_,h,rfl⟩
    ·rcases List.mem_append.1 hk with hk|hk
     ·split at hk
      ·cases hk
      ·rename_i h0;obtain rfl:k=g:=by simpa using hk
       rw[if_neg h0] at hs;rcases ho.2 with⟨h1,_⟩|⟨g',cap,cur,h1,_,h3,_⟩
       ·rw[h1] at hs;cases hs
       ·rw[h1] at hs;injection hs with hs;subst hs;exact Or.inr ⟨_,h3,rfl⟩
     ·obtain⟨c,hc,hkc⟩:=List.mem_flatMap.1 hk;obtain⟨u,hu⟩:=ha.right hc;exact ((Ae.maps hu).2 k hkc).imp (fun hm=>List.mem_flatMap.2 ⟨c,hc,hm⟩) id
  ·rw[Sp.Bi,Sp.Wg];refine⟨fun k hk=>?_,fun k hk=>?_⟩
   ·rcases List.mem_cons.1 hk with rfl|hk
    ·simp
    ·obtain⟨p,hpm,hkc⟩:=List.mem_flatMap.1 hk;obtain⟨u,hu⟩:=hp.right hpm;exact List.mem_cons_of_mem _ (List.mem_cons_of_mem _ (List.mem_flatMap.2 ⟨p,hpm,(Ae.maps hu).1 k hkc⟩))
   ·rcases List.mem_cons.1 hk with rfl|hk
    ·exact Or.inr ⟨_,h,rfl⟩
    ·rcases List.mem_cons.1 hk with rfl|hk
     ·exact Or.inl (by simp)
     ·obtain⟨p,hpm,hkc⟩:=List.mem_flatMap.1 hk;obtain⟨u,hu⟩:=hp.right hpm;exact ((Ae.maps hu).2 k hkc).imp (fun hm=>List.mem_cons_of_mem _ (List.mem_flatMap.2 ⟨p,hpm,hm⟩)) id
end

section
open Go.RowKit Go.Maps
theorem BR.less{L:Nat}{v:Value}{T:Sp.A}{M M' N:Nat->Prop}{wk w:World}(h:BR L v T M' N wk w)(hM:∀k,M k->M' k):BR L v T M N wk w:=by
 obtain⟨T',e,h1,h2,h3⟩:=h.tree;exact⟨⟨T',e,h1,h2,fun k hk=>⟨fun hm=>(h3 k hk).1 (hM k hm),(h3 k hk).2⟩⟩,fun k hm=>h.held k (hM k hm),fun k hm=>h.low k (hM k hm)⟩
def Und(L:Nat)(B:Nat)(v:Value)(Tb:Sp.A)(Mb:Nat->Prop)(wb:World):List Clo->Sp.A->(Nat->Prop)->World->Prop
 | [],T,M,wk=>∀N w,BR L v T M N wk w->BR L v Tb Mb N wb w
 | c::r,T,M,wk=>∃T0 M0 wk0,Und L B v Tb Mb wb r T0 M0 wk0/\EG L v c.1 c.2 T0 T M0 M wk0 wk/\(∀k,M0 k->M k)/\(∀k∈Sp.mps L T0,k<B)/\Ent c.1
theorem Und.up{L B B':Nat}{v:Value}{Tb:Sp.A}{Mb:Nat->Prop}{wb:World}(hB:B<=B'):∀ {cs:List Clo} {T:Sp.A} {M:Nat->Prop} {wk:World},Und L B v Tb Mb wb cs T M wk->Und L B' v Tb Mb wb cs T M wk
 | [],_,_,_,h=>h
 | _::_,_,_,_,⟨T0,M0,wk0,h1,h2,h3,h4,h5⟩=>⟨T0,M0,wk0,Und.up hB h1,h2,h3,fun k hk=>Nat.lt_of_lt_of_le (h4 k hk) hB,h5⟩
theorem Und.shift{L B:Nat}{v:Value}{Tb T T2:Sp.A}{Mb M M2:Nat->Prop}{wb wk wk2:World}{cs:List Clo}(h:Und L B v Tb Mb wb cs T M wk)(hT:Sp.er L T2=Sp.er L T)(hM:∀k,M k->M2 k/\wk2.heap[k]? = wk.heap[k]?):Und L B v Tb Mb wb cs T2 M2 wk2:=by
 have key:∀N w,BR L v T2 M2 N wk2 w->BR L v T M N wk w:=fun N w hA=>(hA.less fun k hk=>(hM k hk).1).shift hT.symm fun k hk=>(hM k hk).2.symm;cases cs with
 | nil=>exact fun N w hA=>h N w (key N w hA)
 | cons c r =>
  obtain⟨T0,M0,wk0,h1,h2,h3,h4,h5⟩:=h;exact⟨T0,M0,wk0,h1,fun N w hN hA=>h2 N w (fun k hk=>⟨fun hm=>(hN k hk).1 (hM k hm).1,(hN k hk).2⟩) (key N w hA),fun k hk=>(hM k (h3 k hk)).1,h4,h5⟩
def Jrn(w:World)(G:Nat->Prop):List Value->List Clo->List Sp.Opn->Prop
 | [],[],[]=>True
 | cv::kv::pv::fv::vv::r,c::s,o::t=>cv=FC c/\F3 w G kv pv fv vv o/\Jrn w G r s t
 | _,_,_=>False
theorem Jrn.move{w w':World}{G G':Nat->Prop}(hk:∀k,G k->k<w.heap.size->w'.heap[k]? = w.heap[k]? /\ G' k):∀ {xs:List Value} {cs:List Clo} {js:List Sp.Opn},Jrn w G xs cs js->Jrn w' G' xs cs js
 | [],[],[],_=>trivial
 | _::_::_::_::_::_,_::_,_::_,⟨e,a,b⟩=>⟨e,a.move hk,Jrn.move hk b⟩
theorem Jrn.snoc{w:World}{G:Nat->Prop}{cv kv pv fv vv:Value}{c:Clo}{o:Sp.Opn}(hc:cv=FC c)(ho:F3 w G kv pv fv vv o):∀ {xs:List Value} {cs:List Clo} {js:List Sp.Opn},Jrn w G xs cs js->Jrn w G (xs++[cv,kv,pv,fv,vv]) (cs++[c]) (js++[o])
 | [],[],[],_=>⟨hc,ho,trivial⟩
 | _::_::_::_::_::_,_::_,_::_,⟨e,a,b⟩=>⟨e,a,Jrn.snoc hc ho b⟩
def GA(L:Nat)(Tb:Sp.A)(wb:World)(M:Nat->Prop)(k:Nat):Prop:=M k/\(wb.heap.size<=k\/k∈Sp.fp L Tb)
structure Bm(L:Nat)(w:World)(D:Nat)(rv jn iv:Value)(ch:Bool)(Tb:Sp.A)(Mb:Nat->Prop)(wb:World)(T:Sp.A)(M:Nat->Prop)(js:List Sp.Opn):Prop where
 ex:∃xs cs,DB w D rv jn ch iv/\w.ownsRow 0 230 5 jn js.length xs/\Jrn w (GA L Tb wb M) xs cs js/\Und L w.heap.size rv Tb Mb wb cs.reverse T M w
 jD:jn.ownBlock≠some D
 jM:∀g,jn.ownBlock=some g -> ¬ M g/\g ∉ Sp.fp L T
 tr:Ae L w rv T
 nd:(Sp.fp L T).Nodup
 dD:D ∉ Sp.fp L T /\ ¬ M D
 low:∀k,M k->k<w.heap.size/\k ∉ Sp.fp L T
 up:wb.heap.size<=w.heap.size /\ ∀k∈Sp.fp L T,wb.heap.size<=k\/k∈Sp.fp L Tb
structure JEx(M M':Nat->Prop)(w w':World):Prop where
 os:w'.os=w.os
 tape:w'.tape=w.tape
 output:w'.output=w.output
 size:w.heap.size<=w'.heap.size
 kept:∀k,M k->M' k/\w'.heap[k]? = w.heap[k]?
theorem JEx.refl(M:Nat->Prop)(w:World):JEx M M w w:=⟨rfl,rfl,rfl,Nat.le_refl _,fun _ h=>⟨h,rfl⟩⟩
theorem JEx.trans{M M1 M2:Nat->Prop}{w w1 w2:World}(h:JEx M M1 w w1)(k:JEx M1 M2 w1 w2):JEx M M2 w w2 :=
 ⟨k.os.trans h.os,k.tape.trans h.tape,k.output.trans h.output,Nat.le_trans h.size k.size,fun j hj=>⟨(k.kept j (h.kept j hj).1).1,(k.kept j (h.kept j hj).1).2.trans (h.kept j hj).2⟩⟩
section
variable{L:Nat}{w:World}{D:Nat}{rv jn iv:Value}{ch:Bool}{Tb T:Sp.A}{Mb M:Nat->Prop}{wb:World}{js:List Sp.Opn}
theorem Bm.jlt(h:Bm L w D rv jn iv ch Tb Mb wb T M js):∀g,jn.ownBlock=some g->g<w.heap.size:=by
 obtain⟨xs,cs,_,h2,_⟩:=h.ex;exact fun g hg=>(BP h2 g hg).1
theorem Bm.dlt(h:Bm L w D rv jn iv ch Tb Mb wb T M js):D<w.heap.size:=by
 obtain⟨xs,cs,h1,_⟩:=h.ex;exact h1.lt
theorem Bm.grow{w':World}(h:Bm L w D rv jn iv ch Tb Mb wb T M js)(hb:Below w.heap.size w w')(X:Nat->Prop)(hX:∀k,X k->w.heap.size<=k/\k<w'.heap.size) :
  Bm L w' D rv jn iv ch Tb Mb wb T (fun k=>M k\/X k) js/\JEx M (fun k=>M k\/X k) w w':=by
 obtain⟨xs,cs,h1,h2,h3,h4⟩:=h.ex;have hjl:=h.jlt;have hlt:=h.tr.lt;have hM:∀k,M k->(M k\/X k)/\w'.heap[k]? = w.heap[k]?:=fun k hk=>⟨Or.inl hk,hb.block k (h.low k hk).1⟩
 refine⟨⟨⟨xs,cs,h1.kept (hb.block D h1.lt),BG h2 fun g hg=>hb.block g (hjl g hg),h3.move fun k hk hl=>⟨(hM k hk.1).2,(hM k hk.1).1,hk.2⟩,(h4.shift rfl hM).up hb.size⟩,h.jD,fun g hg=>⟨fun hm=>hm.elim (h.jM g hg).1 fun hx=>by have:=(hX g hx).1;have:=hjl g hg;omega,(h.jM g hg).2⟩,h.tr.bel hb,h.nd,⟨h.dD.1,fun hm=>hm.elim h.dD.2 fun hx=>by have:=(hX D hx).1;have:=h1.lt;omega⟩,fun k hm=>?_,⟨Nat.le_trans h.up.1 hb.size,h.up.2⟩⟩,⟨hb.os,hb.tape,hb.output,hb.size,hM⟩⟩;rcases hm with hm|hm
 ·exact⟨Nat.lt_of_lt_of_le (h.low k hm).1 hb.size,(h.low k hm).2⟩
 ·exact⟨(hX k hm).2,fun hf=>by have:=hlt k hf;have:=(hX k hm).1;omega⟩
theorem Bm.lay{w3 w4:World}{T3 T1:Sp.A}{M':Nat->Prop}{xs:List Value}{cs:List Clo}{c:Clo}{kv pv fv vv:Value}{o:Sp.Opn}{e:Ending}
  (h:Bm L w D rv jn iv ch Tb Mb wb T M js) (hx:Jrn w (GA L Tb wb M) xs cs js) (hu:Und L w.heap.size rv Tb Mb wb cs.reverse T M w) (hk:As (fun k=>k∈Sp.fp L T) w w3) (ht:Ae L w3 rv T3) (hn:(Sp.fp L T3).Nodup) (hD3:D ∉ Sp.fp L T3)
  (hj3:∀g,jn.ownBlock=some g->g ∉ Sp.fp L T3) (hM:∀k,M k->M' k) (hM':∀k,M' k->k<w3.heap.size/\k ∉ Sp.fp L T3/\k≠D/\jn.ownBlock≠some k) (he:E5 D rv jn iv ch js.length xs [FC c,kv,pv,fv,vv] w3 e w4)
  (ho:F3 w3 (GA L Tb wb M') kv pv fv vv o) (hT:Sp.er L T3=Sp.er L T1) (hB:(∀k,M k->M' k/\w4.heap[k]? = w.heap[k]?)->(∀k,M' k->w4.heap[k]? = w3.heap[k]?)->EG L rv c.1 c.2 T T1 M M' w w4) (hin:Ent c.1) (hup:∀k∈Sp.fp L T3,wb.heap.size<=k\/k∈Sp.fp L Tb) :
  e = .returned (.tuple #[]) /\ ∃jn',Bm L w4 D rv jn' iv ch Tb Mb wb T3 M' (js++[o])/\JEx M M' w w4:=by
 obtain⟨rfl,g,cap,g1,g2,g3,g4⟩:=he;have hlt3:=ht.lt;have h43:∀k,M' k->w4.heap[k]? = w3.heap[k]?:=fun k hm=>g4.block k (hM' k hm).1 fun hh=>hh.elim (hM' k hm).2.2.1 (hM' k hm).2.2.2;have hMM:∀k,M k->M' k/\w4.heap[k]? = w.heap[k]?:=fun k hm=>⟨hM k hm,(h43 k (hM k hm)).trans (hk.block k (h.low k hm).1 (h.low k hm).2)⟩
 have hgx:¬ M' g/\g ∉ Sp.fp L T3:=by
  rcases g3 with h|h
  ·exact⟨fun hm=>(hM' g hm).2.2.2 h,hj3 g h⟩
  ·exact⟨fun hm=>by have:=(hM' g hm).1;omega,fun hm=>by have:=hlt3 g hm;omega⟩
 have hgD:g≠D:=by
  rcases g3 with h'|h'
  ·exact fun e=>h.jD (by rw[h',e])
  ·have:=h.dlt;have:=hk.size;omega
 refine⟨rfl,_,⟨⟨xs++[FC c,kv,pv,fv,vv],cs++[c],g1,by simpa using g2,Jrn.snoc rfl (ho.move fun k hm _=>⟨h43 k hm.1,hm⟩) (hx.move fun k hm _=>⟨(hMM k hm.1).2,hM k hm.1,hm.2⟩),?_⟩,?_,?_,ht.move fun k hkm=>g4.block k (hlt3 k hkm) (fun hh=>hh.elim (fun e=>hD3 (e▸hkm)) fun e=>hj3 k e hkm),hn,⟨hD3,fun hm=>(hM' D hm).2.2.1 rfl⟩,fun k hm=>⟨Nat.lt_of_lt_of_le (hM' k hm).1 g4.size,(hM' k hm).2.1⟩,⟨Nat.le_trans h.up.1 (Nat.le_trans hk.size g4.size),hup⟩⟩,⟨g4.os.trans hk.os,g4.tape.trans hk.tape,g4.output.trans hk.output,Nat.le_trans hk.size g4.size,hMM⟩⟩
 ·rw[List.reverse_append];exact Und.shift (T:=T1) (M:=M') (wk:=w4) (cs:=c::cs.reverse) ⟨T,M,w,hu.up (Nat.le_trans hk.size g4.size),hB hMM h43,hM,fun k hkm=>by have:=h.tr.lt k (h.tr.maps.1 k hkm);have:=hk.size;have:=g4.size;omega,hin⟩ hT fun k hm=>⟨hm,rfl⟩
 ·simpa[Value.ownBlock] using hgD
 ·intro g' hg';simp only[Value.ownBlock] at hg';have:g'=g:=by simpa using hg'.symm
  subst this;exact hgx
end
end
end Go.Proofs.YtdpomdelmdofmaaGreatDoor
